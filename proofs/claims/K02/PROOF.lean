import PyProof.Rows.All
import Wide.All
import OpenK.AllK
import Wide.FinOn
import HandS.ForMost
import HandS.Exc
import HandS.TryOnly
import HandS.ExcOwn
import HandS.WordsExc
import HandS.IsInst
import HandS.TupAny
import HandS.TupMul
import HandS.Steps
import HandS.Small
import HandS.FStr
import HandS.CallSlots
import HandS.TryMany
import HandS.More
import HandS.CallLocal
import HandS.ExcIs
import PyProof.StrLawsRepr
import HandS.Ends
import PySem.Challenge.RW_signalgraph_k02_kinds_and_sources
set_option Elab.async false
set_option linter.all false
set_option maxRecDepth 100000
set_option maxHeartbeats 4000000
/-! # The data layer: what a def does, told over plain data (PyData), without addresses -/
namespace L2
open PySem PySem.Spec PyProof.Rows

/-! ## answers -/
inductive R (α : Type) where
  | bad
  | ex (n : Nat)
  | ok (a : α)
def R.bind {α β : Type} : R α → (α → R β) → R β
  | .bad, _ => .bad
  | .ex n, _ => .ex n
  | .ok a, f => f a
def R.map {α β : Type} (f : α → β) : R α → R β
  | .bad => .bad
  | .ex n => .ex n
  | .ok a => .ok (f a)
def R.when {α : Type} (b : Bool) (r : R α) : R α := if b = true then r else .bad
section
variable {α β γ : Type}
theorem R.bind_ok {a : α} {f : α → R β} : (R.ok a).bind f = f a := (rfl)
theorem R.bind_bad {f : α → R β} : (R.bad : R α).bind f = .bad := (rfl)
theorem R.bind_ex {n : Nat} {f : α → R β} : (R.ex n : R α).bind f = .ex n := (rfl)
theorem R.map_ok {a : α} {f : α → β} : (R.ok a).map f = .ok (f a) := (rfl)
theorem R.map_bad {f : α → β} : (R.bad : R α).map f = .bad := (rfl)
theorem R.map_ex {n : Nat} {f : α → β} : (R.ex n : R α).map f = .ex n := (rfl)
theorem R.when_true {r : R α} : R.when true r = r := (rfl)
theorem R.when_false {r : R α} : R.when false r = .bad := (rfl)
theorem R.when_of {b : Bool} {r : R α} (h : b = true) : R.when b r = r := by rw [h]; rfl
end
abbrev D := PyData
abbrev DS := List (Option D)

/-! ## the masked heap -/
noncomputable section
open Classical in
def mask (A : Addr → Prop) (H : Hp) : Hp := fun a => if A a then none else H a
end
def Cov (A : Addr → Prop) (H : Hp) : Prop := ∀ a, A a → H a ≠ none
section
variable {K : PySem.W.Frag} {A B : Addr → Prop} {H H' H1 : Hp} {a p : Addr} {o : HO}
theorem mask_in (h : A a) : mask A H a = none := by unfold mask; rw [if_pos h]
theorem mask_out (h : ¬ A a) : mask A H a = H a := by unfold mask; rw [if_neg h]
theorem mask_some : mask A H a = some o ↔ ¬ A a ∧ H a = some o := by
  by_cases h : A a
  · rw [mask_in h]; simp [h]
  · rw [mask_out h]; simp [h]
theorem Same.mask (s : Same H H') : Same (mask A H) (mask A H') := fun b o e => by
  rw [mask_some] at e ⊢
  exact ⟨e.1, s _ _ e.2⟩
theorem mask_sub (h : ∀ a, B a → A a) : Same (mask A H) (mask B H) := fun b o e => by
  rw [mask_some] at e ⊢
  exact ⟨fun q => e.1 (h _ q), e.2⟩
theorem mask_le : Same (mask A H) H := fun b o e => (mask_some.mp e).2
theorem Cov.mono (c : Cov A H) (s : Same H H') : Cov A H' := fun a h e => by
  cases q : H a with
  | none => exact c a h q
  | some o => rw [s _ _ q] at e; cases e
theorem Cov.new (c : Cov A H) (h : H p = none) : ¬ A p := fun q => c p q h
theorem Cov.add (c : Cov A H) (h : H p = some o) : Cov (fun a => A a ∨ a = p) H := fun a q e => by
  rcases q with q | rfl
  · exact c a q e
  · rw [h] at e; cases e
theorem same_upd (h : H p = none) : Same H (upd H p o) := fun b u e => by
  rw [upd_ne (ne_of_none e h)]; exact e
theorem same_mut (s : Same H H') (h : H p = none) : Same H (upd H' p o) := fun b u e => by
  rw [upd_ne (ne_of_none e h)]; exact s _ _ e
theorem sqL_same {xs : List V} (s : Same H H') (h : SqL K H a xs) : SqL K H' a xs := Same.seq s h
theorem sqT_same {xs : List V} (s : Same H H') (h : SqT K H a xs) : SqT K H' a xs := by
  rcases h with (h | ⟨o, h⟩) | h
  · exact .inl (.inl (s _ _ h))
  · exact .inl (.inr ⟨o, s _ _ h⟩)
  · exact .inr h
mutual
theorem Dp.same (s : Same H H') : ∀ {d : D} {v : V}, Dp K H v d → Dp K H' v d
  | _, _, .non => .non
  | _, _, .bl b => .bl b
  | _, _, .int i => .int i
  | _, _, .str x => .str x
  | _, _, .lst hs ha => .lst (sqL_same s hs) (DpAll.same s ha)
  | _, _, .tup hs ha => .tup (sqT_same s hs) (DpAll.same s ha)
theorem DpAll.same (s : Same H H') : ∀ {ds : List D} {vs : List V}, DpAll K H vs ds → DpAll K H' vs ds
  | _, _, .nil => .nil
  | _, _, .cons h1 h2 => .cons (Dp.same s h1) (DpAll.same s h2)
end
theorem DpAll.len : ∀ {ds : List D} {vs : List V}, DpAll K H vs ds → vs.length = ds.length
  | _, _, .nil => rfl
  | _, _, .cons _ h2 => by rw [List.length_cons, List.length_cons, DpAll.len h2]
theorem DpAll.app : ∀ {ds es : List D} {vs us : List V}, DpAll K H vs ds → DpAll K H us es → DpAll K H (vs ++ us) (ds ++ es)
  | _, _, _, _, .nil, h => h
  | _, _, _, _, .cons h1 h2, h => .cons h1 (DpAll.app h2 h)
theorem DpAll.get : ∀ {ds : List D} {vs : List V} {i : Nat} {d : D}, DpAll K H vs ds → ds[i]? = some d → ∃ v, vs[i]? = some v ∧ Dp K H v d
  | _, _, _, _, .nil, e => by simp at e
  | _, _, 0, _, .cons h1 h2, e => by simp at e; subst e; exact ⟨_, rfl, h1⟩
  | _, _, i + 1, d, .cons h1 h2, e => by
    obtain ⟨v, q1, q2⟩ := DpAll.get (i := i) (d := d) h2 (by simpa using e)
    exact ⟨v, by simpa using q1, q2⟩
theorem DpAll.get2 : ∀ {ds : List D} {vs : List V} {i : Nat} {v : V}, DpAll K H vs ds → vs[i]? = some v → ∃ d, ds[i]? = some d ∧ Dp K H v d
  | _, _, _, _, .nil, e => by simp at e
  | _, _, 0, _, .cons h1 h2, e => by simp at e; subst e; exact ⟨_, rfl, h1⟩
  | _, _, i + 1, v, .cons h1 h2, e => by
    obtain ⟨d, q1, q2⟩ := DpAll.get2 (i := i) (v := v) h2 (by simpa using e)
    exact ⟨d, by simpa using q1, q2⟩
theorem DpAll.set {v : V} {d : D} (h : Dp K H v d) : ∀ {ds : List D} {vs : List V} (i : Nat), DpAll K H vs ds → DpAll K H (vs.set i v) (ds.set i d)
  | _, _, _, .nil => .nil
  | _, _, 0, .cons _ h2 => .cons h h2
  | _, _, i + 1, .cons h1 h2 => .cons h1 (DpAll.set h i h2)
theorem DpAll.take : ∀ {ds : List D} {vs : List V} (n : Nat), DpAll K H vs ds → DpAll K H (vs.take n) (ds.take n)
  | _, _, 0, _ => by simp; exact .nil
  | _, _, _ + 1, .nil => .nil
  | _, _, n + 1, .cons h1 h2 => .cons h1 (DpAll.take n h2)
theorem DpAll.drop : ∀ {ds : List D} {vs : List V} (n : Nat), DpAll K H vs ds → DpAll K H (vs.drop n) (ds.drop n)
  | _, _, 0, h => h
  | _, _, _ + 1, .nil => .nil
  | _, _, n + 1, .cons h1 h2 => DpAll.drop n h2
theorem DpAll.dropLast {ds : List D} {vs : List V} (h : DpAll K H vs ds) : DpAll K H vs.dropLast ds.dropLast := by
  rw [List.dropLast_eq_take, List.dropLast_eq_take, h.len]
  exact h.take _
theorem DpAll.rep {v : V} {d : D} (h : Dp K H v d) : ∀ n : Nat, DpAll K H (List.replicate n v) (List.replicate n d)
  | 0 => .nil
  | n + 1 => .cons h (DpAll.rep h n)
/-! ### data without lists: no store to a list changes them -/
mutual
def imm : D → Bool
  | .none => true
  | .bool _ => true
  | .int _ => true
  | .str _ => true
  | .list _ => false
  | .tuple ds => imms ds
  | .dict _ => false
def imms : List D → Bool
  | [] => true
  | d :: ds => imm d && imms ds
end
theorem imms_all : ∀ ds : List D, imms ds = ds.all imm
  | [] => rfl
  | d :: ds => by rw [imms, imms_all ds]; rfl
/-- H' holds all tuples of H -/
def TSame (H H' : Hp) : Prop := ∀ a xs, Rd H a (.tup xs) → Rd H' a (.tup xs)
mutual
theorem Dp.tsame (s : TSame H H') : ∀ {d : D} {v : V}, imm d = true → Dp K H v d → Dp K H' v d
  | _, _, _, .non => .non
  | _, _, _, .bl b => .bl b
  | _, _, _, .int i => .int i
  | _, _, _, .str x => .str x
  | _, _, h, .lst hs ha => by simp [imm] at h
  | _, _, h, .tup hs ha => .tup (by
      rcases hs with hs | hs
      · exact .inl (s _ _ hs)
      · exact .inr hs) (DpAll.tsame s (by simpa [imm] using h) ha)
theorem DpAll.tsame (s : TSame H H') : ∀ {ds : List D} {vs : List V}, imms ds = true → DpAll K H vs ds → DpAll K H' vs ds
  | _, _, _, .nil => .nil
  | _, _, h, .cons h1 h2 => by
    rw [imms, Bool.and_eq_true] at h
    exact .cons (Dp.tsame s h.1 h1) (DpAll.tsame s h.2 h2)
end
theorem tsame_mask (h : ∀ a, A a → ∃ xs, H a = some (.lst xs)) : TSame H (mask A H) := fun a xs r => by
  have k : ¬ A a := fun q => by
    obtain ⟨ys, e⟩ := h a q
    rcases r with r | ⟨o, r⟩ <;> (rw [e] at r; cases r)
  rcases r with r | ⟨o, r⟩
  · exact .inl (mask_some.mpr ⟨k, r⟩)
  · exact .inr ⟨o, mask_some.mpr ⟨k, r⟩⟩
/-- masked by less -/
theorem tsame_mask2 (h : ∀ a, A a → B a ∨ ∃ xs, H a = some (.lst xs)) : TSame (mask B H) (mask A H) := fun a xs r => by
  have k : ¬ A a := fun q => by
    rcases h a q with b | ⟨ys, e⟩
    · rcases r with r | ⟨o, r⟩ <;> (rw [mask_in b] at r; cases r)
    · rcases r with r | ⟨o, r⟩ <;> (rw [mask_some, e] at r; cases r.2)
  rcases r with r | ⟨o, r⟩
  · exact .inl (mask_some.mpr ⟨k, (mask_some.mp r).2⟩)
  · exact .inr ⟨o, mask_some.mpr ⟨k, (mask_some.mp r).2⟩⟩
end

/-! ## judgements over data -/
/-- slots: what δ says of σ in H -/
def SR (K : PySem.W.Frag) (A : Addr → Prop) (σ : St) (δ : DS) (H : Hp) : Prop := (∀ (i : Nat) (d : D), δ[i]? = some (some d) → ∃ v, σ[i]? = some (some v) ∧ Dp K (mask A H) v d) ∧ δ.length ≤ σ.length
theorem SR.mono {K : PySem.W.Frag} {A : Addr → Prop} {σ : St} {δ : DS} {H H' : Hp} (r : SR K A σ δ H) (s : Same H H') : SR K A σ δ H' := ⟨fun i d e => by
  obtain ⟨v, h1, h2⟩ := r.1 i d e
  exact ⟨v, h1, Dp.same (Same.mask s) h2⟩, r.2⟩
/-- where one stands: what an exception's number means, what is wished of one -/
structure Wx where
  cv : Nat → Value
  E : XK
/-- the same, by the slots as they stand -/
structure Wy where
  cv : Nat → Value
  E : L2.St → XK
def Wy.at (Y : Wy) (σ : L2.St) : Wx := ⟨Y.cv, Y.E σ⟩
def WpE (K : PySem.W.Frag) (Y : Wx) (A : Addr → Prop) (H : Hp) (r : R D) (Q : VK) : Prop :=
  match r with
  | .bad => False
  | .ex n => ∀ H', Same H H' → Y.E (Y.cv n) none H'
  | .ok d => ∀ v H', Same H H' → Dp K (mask A H') v d → Q v H'
def WpA (K : PySem.W.Frag) (Y : Wx) (A : Addr → Prop) (H : Hp) (r : R (List D)) (Q : List V → Hp → Prop) : Prop :=
  match r with
  | .bad => False
  | .ex n => ∀ H', Same H H' → Y.E (Y.cv n) none H'
  | .ok ds => ∀ vs H', Same H H' → DpAll K (mask A H') vs ds → Q vs H'
def WpT (Y : Wx) (H : Hp) (r : R Bool) (Q : Bool → Hp → Prop) : Prop :=
  match r with
  | .bad => False
  | .ex n => ∀ H', Same H H' → Y.E (Y.cv n) none H'
  | .ok b => ∀ H', Same H H' → Q b H'
/-- a new list of one's own -/
def WpL (K : PySem.W.Frag) (Y : Wx) (A : Addr → Prop) (H : Hp) (r : R (List D)) (Q : VK) : Prop :=
  match r with
  | .bad => False
  | .ex n => ∀ H', Same H H' → Y.E (Y.cv n) none H'
  | .ok ds => ∀ p vs H', Same H H' → H p = none → H' p = some (.lst vs) → DpAll K (mask (fun a => A a ∨ a = p) H') vs ds → Q (.ref p) H'
section
variable {K : PySem.W.Frag} {Y : Wx} {A : Addr → Prop} {H H1 : Hp}
theorem WpE.mono {r : R D} {Q : VK} (w : WpE K Y A H r Q) (s : Same H H1) : WpE K Y A H1 r Q := by
  cases r with
  | bad => exact w
  | ex n => exact fun H' t => w H' (s.trans t)
  | ok d => exact fun v H' t q => w v H' (s.trans t) q
theorem WpA.mono {r : R (List D)} {Q : List V → Hp → Prop} (w : WpA K Y A H r Q) (s : Same H H1) : WpA K Y A H1 r Q := by
  cases r with
  | bad => exact w
  | ex n => exact fun H' t => w H' (s.trans t)
  | ok d => exact fun v H' t q => w v H' (s.trans t) q
theorem WpT.mono {r : R Bool} {Q : Bool → Hp → Prop} (w : WpT Y H r Q) (s : Same H H1) : WpT Y H1 r Q := by
  cases r with
  | bad => exact w
  | ex n => exact fun H' t => w H' (s.trans t)
  | ok d => exact fun H' t => w H' (s.trans t)
theorem Same.none_back (s : Same H H1) {p : Addr} (h : H1 p = none) : H p = none := Same.free s h
theorem WpL.mono {r : R (List D)} {Q : VK} (w : WpL K Y A H r Q) (s : Same H H1) : WpL K Y A H1 r Q := by
  cases r with
  | bad => exact w
  | ex n => exact fun H' t => w H' (s.trans t)
  | ok d => exact fun p vs H' t n q => w p vs H' (s.trans t) (Same.none_back s n) q
theorem WpE.of_l {r : R (List D)} {Q : VK} (w : WpE K Y A H (r.map .list) Q) (c : Cov A H) : WpL K Y A H r Q := by
  cases r with
  | bad => exact w
  | ex n => exact w
  | ok ds => exact fun p vs H' t n q a => w _ H' t (.lst (SqL.of (mask_some.mpr ⟨c.new n, q⟩)) (DpAll.same (mask_sub fun a h => .inl h) a))
end
def DE (X : Cx) (Y : Wy) (e : Expr) (m : DS → R D) : Prop :=
  ∃ t, PE X e t ∧ ∀ (σ : St) (δ : DS) (H : Hp) (A : Addr → Prop), Cov A H → SR X.K A σ δ H → ∀ Q : VK, WpE X.K (Y.at σ) A H (m δ) Q → t σ H Q
def DA (X : Cx) (Y : Wy) (es : List Expr) (m : DS → R (List D)) : Prop :=
  ∃ t, PA X es t ∧ ∀ (σ : St) (δ : DS) (H : Hp) (A : Addr → Prop), Cov A H → SR X.K A σ δ H → ∀ Q : List V → Hp → Prop, WpA X.K (Y.at σ) A H (m δ) Q → t σ H Q
def DT (X : Cx) (Y : Wy) (e : Expr) (m : DS → R Bool) : Prop :=
  ∃ t, PT X e t ∧ ∀ (σ : St) (δ : DS) (H : Hp) (A : Addr → Prop), Cov A H → SR X.K A σ δ H → ∀ Q : Bool → Hp → Prop, WpT (Y.at σ) H (m δ) Q → t σ H Q
def DW (X : Cx) (Y : Wy) (e : Expr) (m : DS → R Bool) : Prop :=
  ∃ t, PW X e t ∧ ∀ (σ : St) (δ : DS) (H : Hp) (A : Addr → Prop), Cov A H → SR X.K A σ δ H → ∀ Q : Bool → Hp → Prop, WpT (Y.at σ) H (m δ) Q → t σ H Q
def DN (X : Cx) (Y : Wy) (e : Expr) (m : DS → R (List D)) : Prop :=
  ∃ t, PE X e t ∧ ∀ (σ : St) (δ : DS) (H : Hp) (A : Addr → Prop), Cov A H → SR X.K A σ δ H → ∀ Q : VK, WpL X.K (Y.at σ) A H (m δ) Q → t σ H Q
section
variable {X : Cx} {Y : Wy} {e a b : Expr} {m ma mb : DS → R D}
theorem DN.de {m : DS → R (List D)} (h : DN X Y e m) : DE X Y e (fun δ => (m δ).map .list) := by
  obtain ⟨t, p, q⟩ := h
  exact ⟨t, p, fun σ δ H A c s Q w => q σ δ H A c s Q (w.of_l c)⟩
/-- two in a row -/
theorem de_seq {ta : TE} (ha : ∀ (σ : St) (δ : DS) (H : Hp) (A : Addr → Prop), Cov A H → SR X.K A σ δ H → ∀ Q : VK, WpE X.K (Y.at σ) A H (ma δ) Q → ta σ H Q) {σ : St} {δ : DS} {H : Hp} {A : Addr → Prop} (c : Cov A H) (s : SR X.K A σ δ H)
    {f : D → R D} {P Q : VK} (w : WpE X.K (Y.at σ) A H ((ma δ).bind f) Q) (k : ∀ d v H1, Same H H1 → Dp X.K (mask A H1) v d → WpE X.K (Y.at σ) A H1 (f d) Q → P v H1) : ta σ H P := by
  refine ha σ δ H A c s P ?_
  cases e : ma δ with
  | bad => rw [e] at w; exact w
  | ex n => rw [e] at w; exact w
  | ok d =>
    rw [e] at w
    exact fun v H1 t q => k d v H1 t q (WpE.mono w t)
end

/-! ## expressions -/
def mVar (i : Nat) : DS → R D := fun δ => match δ[i]? with
  | some (some d) => .ok d
  | _ => .bad
def mC (d : D) : DS → R D := fun _ => .ok d
section
variable {X : Cx} {Y : Wy}
theorem de_var (i : Nat) {x : Str} {pos : Pos} (hN : X.N[i]? = some x := by rfl) (hv : Vis X.env.scope x := by first | exact Or.inl rfl | exact Or.inr (Or.inl rfl) | exact Or.inr (Or.inr rfl)) (hd : (x == ("__debug__" : Str)) = false := by decide)
    (hcd : (x == ("__classdict__" : Str)) = false := by decide) : DE X Y (.Name x pos) (mVar i) := ⟨tVar i, pe_var hN hv hd hcd, fun σ δ H A c s Q w => by
  unfold mVar at w
  cases e : δ[i]? with
  | none => rw [e] at w; exact w.elim
  | some o =>
    cases o with
    | none => rw [e] at w; exact w.elim
    | some d =>
      rw [e] at w
      obtain ⟨v, h1, h2⟩ := s.1 i d e
      exact ⟨v, h1, w v H (Same.refl H) h2⟩⟩
theorem de_int {i j pos} : DE X Y (.Constant (.int i) j pos) (mC (.int i)) := ⟨_, pe_int, fun σ δ H A c s Q w => w _ H (Same.refl H) (.int i)⟩
theorem de_bl {i j pos} : DE X Y (.Constant (.bool i) j pos) (mC (.bool i)) := ⟨_, pe_bl, fun σ δ H A c s Q w => w _ H (Same.refl H) (.bl i)⟩
theorem de_non {j pos} : DE X Y (.Constant .none j pos) (mC .none) := ⟨_, pe_non, fun σ δ H A c s Q w => w _ H (Same.refl H) .non⟩
theorem de_str {i j pos} : DE X Y (.Constant (.str i) j pos) (mC (.str i)) := ⟨_, pe_str, fun σ δ H A c s Q w => w _ H (Same.refl H) (.str i)⟩
/-- two-place operations -/
def DOp (X : Cx) (r : R2) (g : D → D → R D) : Prop := ∀ (Y : Wx) (A : Addr → Prop) (H : Hp) (x y : V) (dx dy : D), Cov A H → Dp X.K (mask A H) x dx → Dp X.K (mask A H) y dy → ∀ Q : VK, WpE X.K Y A H (g dx dy) Q → r x y H Q
def mBin (g : D → D → R D) (ma mb : DS → R D) : DS → R D := fun δ => (ma δ).bind fun x => (mb δ).bind fun y => g x y
theorem de_opt {f : Value → Value → Sem Value} {ta tb : TE} {r : R2} {g : D → D → R D} {ma mb : DS → R D} (hr : DOp X r g) (ha : ∀ (σ : St) (δ : DS) (H : Hp) (A : Addr → Prop), Cov A H → SR X.K A σ δ H → ∀ Q : VK, WpE X.K (Y.at σ) A H (ma δ) Q → ta σ H Q)
    (hb : ∀ (σ : St) (δ : DS) (H : Hp) (A : Addr → Prop), Cov A H → SR X.K A σ δ H → ∀ Q : VK, WpE X.K (Y.at σ) A H (mb δ) Q → tb σ H Q) :
    ∀ (σ : St) (δ : DS) (H : Hp) (A : Addr → Prop), Cov A H → SR X.K A σ δ H → ∀ Q : VK, WpE X.K (Y.at σ) A H (mBin g ma mb δ) Q → tOp r ta tb σ H Q := fun σ δ H A c s Q w =>
  de_seq (Y := Y) ha c s w fun dx x H1 t1 r1 w1 => de_seq (Y := Y) hb (c.mono t1) (s.mono t1) w1 fun dy y H2 t2 r2 w2 =>
    hr (Y.at σ) A H2 x y dx dy ((c.mono t1).mono t2) (Dp.same (Same.mask t2) r1) r2 Q w2
theorem de_op {op : Operator} {r : R2} {g : D → D → R D} {a b : Expr} {pos : Pos} {ma mb : DS → R D} (ho : OpR X (binaryOp op) r) (hr : DOp X r g) (ha : DE X Y a ma) (hb : DE X Y b mb) : DE X Y (.BinOp a op b pos) (mBin g ma mb) := by
  obtain ⟨ta, pa, qa⟩ := ha
  obtain ⟨tb, pb, qb⟩ := hb
  exact ⟨_, pe_op ho pa pb, de_opt (f := binaryOp op) hr qa qb⟩
theorem de_cmp {op : CmpOp} {r : R2} {g : D → D → R D} {a b : Expr} {pos : Pos} {ma mb : DS → R D} (ho : OpR X (compareOp op) r) (hr : DOp X r g) (ha : DE X Y a ma) (hb : DE X Y b mb) (hm : behindInMarks op b = false := by first | exact nobehind _ (by decide) (by decide) | rfl) :
    DE X Y (.Compare a [op] [b] pos) (mBin g ma mb) := by
  obtain ⟨ta, pa, qa⟩ := ha
  obtain ⟨tb, pb, qb⟩ := hb
  exact ⟨_, pe_cmpR ho pa pb hm, de_opt (f := compareOp op) hr qa qb⟩
theorem de_ix {r : R2} {g : D → D → R D} {a b : Expr} {pos : Pos} {ma mb : DS → R D} (ho : IxR X r) (hr : DOp X r g) (ha : DE X Y a ma) (hb : DE X Y b mb) (hs : PlainIx b := by exact fun _ _ => rfl) : DE X Y (.Subscript a b pos) (mBin g ma mb) := by
  obtain ⟨ta, pa, qa⟩ := ha
  obtain ⟨tb, pb, qb⟩ := hb
  exact ⟨_, pe_ix ho pa pb hs, de_opt (f := getItem) hr qa qb⟩
end
end L2
namespace L2
open PySem PySem.Spec PyProof.Rows
/-! ## operations by data -/
section
variable {X : Cx} {f : Value → Value → Sem Value} {r r' : R2} {g g' : D → D → R D}
def rOr (r r' : R2) : R2 := fun x y H Q => r x y H Q ∨ r' x y H Q
/-- the first that knows an answer -/
def alt (g g' : D → D → R D) : D → D → R D := fun x y => match g x y with
  | .bad => g' x y
  | z => z
theorem DOp.or (h : DOp X r g) (h' : DOp X r' g') : DOp X (rOr r r') (alt g g') := fun Y A H x y dx dy c hx hy Q w => by
  unfold alt at w
  cases e : g dx dy with
  | bad => rw [e] at w; exact .inr (h' Y A H x y dx dy c hx hy Q w)
  | ex n => rw [e] at w; exact .inl (h Y A H x y dx dy c hx hy Q (by rw [e]; exact w))
  | ok d => rw [e] at w; exact .inl (h Y A H x y dx dy c hx hy Q (by rw [e]; exact w))
theorem WpE.here {K : PySem.W.Frag} {Y : Wx} {A : Addr → Prop} {H : Hp} {d : D} {v : V} {Q : VK} (w : WpE K Y A H (.ok d) Q) (h : Dp K (mask A H) v d) : Q v H := w v H (Same.refl H) h
/-- ints -/
def gI (C : Int → Int → Bool) (k : Int → Int → D) : D → D → R D := fun x y => match x, y with
  | .int i, .int j => R.when (C i j) (.ok (k i j))
  | _, _ => .bad
theorem R.when_ok {α : Type} {b : Bool} {r : R α} (P : R α → Prop) (h : P (R.when b r)) (hb : ¬ P .bad) : b = true ∧ P r := by
  cases b with
  | true => exact ⟨rfl, h⟩
  | false => exact absurd h hb
theorem WpE.when {K : PySem.W.Frag} {Y : Wx} {A : Addr → Prop} {H : Hp} {r : R D} {b : Bool} {Q : VK} (w : WpE K Y A H (R.when b r) Q) : b = true ∧ WpE K Y A H r Q := R.when_ok (fun r => WpE K Y A H r Q) w id
theorem WpL.when {K : PySem.W.Frag} {Y : Wx} {A : Addr → Prop} {H : Hp} {r : R (List D)} {b : Bool} {Q : VK} (w : WpL K Y A H (R.when b r) Q) : b = true ∧ WpL K Y A H r Q := R.when_ok (fun r => WpL K Y A H r Q) w id
theorem dop_I {C : Int → Int → Prop} {Cb : Int → Int → Bool} {gv : Int → Int → V} {gd : Int → Int → D} (hc : ∀ i j, Cb i j = true → C i j) (hv : ∀ (K : PySem.W.Frag) (H : Hp) i j, Dp K H (gv i j) (gd i j)) : DOp X (rI C gv) (gI Cb gd) := fun Y A H x y dx dy c hx hy Q w => by
  cases hx with
  | int i =>
    cases hy with
    | int j =>
      obtain ⟨e, w⟩ := WpE.when w
      exact ⟨i, j, rfl, rfl, hc i j e, WpE.here w (hv _ _ i j)⟩
    | _ => exact w.elim
  | _ => exact w.elim
def tt2 : Int → Int → Bool := fun _ _ => true
theorem dop_I0 {gv : Int → Int → V} {gd : Int → Int → D} (hv : ∀ (K : PySem.W.Frag) (H : Hp) i j, Dp K H (gv i j) (gd i j)) : DOp X (rI0 gv) (gI tt2 gd) := fun Y A H x y dx dy c hx hy Q w => by
  cases hx with
  | int i =>
    cases hy with
    | int j => exact ⟨i, j, rfl, rfl, WpE.here w (hv _ _ i j)⟩
    | _ => exact w.elim
  | _ => exact w.elim
/-- texts -/
def gS (C : Str → Str → Bool) (k : Str → Str → D) : D → D → R D := fun x y => match x, y with
  | .str i, .str j => R.when (C i j) (.ok (k i j))
  | _, _ => .bad
def rCatL (K : PySem.W.Frag) : R2 := fun x y H Q => ∃ l b xs zs, x = .ref l ∧ y = .ref b ∧ SqL K H l xs ∧ SqL K H b zs ∧ xs.length + zs.length ≤ sizeLine ∧ ∀ p, H p = none → Q (.ref p) (upd H p (.lst (xs ++ zs)))
theorem op_catL : OpR X (binaryOp .Add) (rCatL X.K) := by
  intro pins s σ H x y v u Q I rx ry h
  obtain ⟨l, b, xs, zs, rfl, rfl, hH, hB, hz, q⟩ := h
  cases rx
  cases ry
  obtain ⟨its, r, pl, z⟩ := I.list hH
  obtain ⟨its2, r2, pl2, z2⟩ := I.list hB
  have hl := r.length
  have hl2 := r2.length
  obtain ⟨⟨cls, dd, data, sl⟩, ho, hc, n, hd⟩ := id pl.isList
  obtain ⟨⟨cls2, dd2, data2, sl2⟩, ho2, hc2, n2, hd2⟩ := id pl2.isList
  simp only at hc hd hc2 hd2
  subst hc hd hc2 hd2
  refine concat_meets ⟨_, ho, rfl⟩ ⟨_, ho2, rfl⟩ noFill_list_add seq_list_add PySem.F.slot_list_add PySem.F.entry_list_add (PySem.F.args_list_add_2 _ _) (list_addW l b its.toArray its2.toArray n n2 dd dd2 sl sl2 (by rw [List.size_toArray, List.size_toArray]; omega)) ⟨ho, ho2, ?_⟩
  have ea : its.toArray ++ its2.toArray = (its ++ its2).toArray := by simp
  rw [ea]
  exact ⟨.ref _, _, I.lnew (t' := s.toks) (r.append r2) (by rw [List.length_append]; omega), rfl, q _ I.fresh⟩
/-! a list or a tuple of data -/
theorem dp_list {K : PySem.W.Frag} {H : Hp} {x : V} {ds : List D} (h : Dp K H x (.list ds)) : ∃ a vs, x = .ref a ∧ SqL K H a vs ∧ DpAll K H vs ds := by
  cases h with
  | lst h1 h2 => exact ⟨_, _, rfl, h1, h2⟩
theorem dp_tup {K : PySem.W.Frag} {H : Hp} {x : V} {ds : List D} (h : Dp K H x (.tuple ds)) : ∃ a vs, x = .ref a ∧ SqT K H a vs ∧ DpAll K H vs ds := by
  cases h with
  | tup h1 h2 => exact ⟨_, _, rfl, h1, h2⟩
def szOk (n : Nat) : Bool := decide (n ≤ sizeLine)
def gCatL : D → D → R (List D) := fun x y => match x, y with
  | .list a, .list b => R.when (szOk (a.length + b.length)) (.ok (a ++ b))
  | _, _ => .bad
/-- operations that give a new list -/
def DOpN (X : Cx) (r : R2) (g : D → D → R (List D)) : Prop := ∀ (Y : Wx) (A : Addr → Prop) (H : Hp) (x y : V) (dx dy : D), Cov A H → Dp X.K (mask A H) x dx → Dp X.K (mask A H) y dy → ∀ Q : VK, WpL X.K Y A H (g dx dy) Q → r x y H Q
theorem mask_upd {A : Addr → Prop} {H : Hp} {p : Addr} {o : HO} (h : H p = none) : Same (mask A H) (mask (fun a => A a ∨ a = p) (upd H p o)) := fun b u e => by
  rw [mask_some] at e ⊢
  have : b ≠ p := ne_of_none e.2 h
  exact ⟨fun q => q.elim e.1 this, by rw [upd_ne this]; exact e.2⟩
theorem WpL.newly {K : PySem.W.Frag} {Y : Wx} {A : Addr → Prop} {H : Hp} {ds : List D} {vs : List V} {Q : VK} (w : WpL K Y A H (.ok ds) Q) (h : DpAll K (mask A H) vs ds) : ∀ p, H p = none → Q (.ref p) (upd H p (.lst vs)) := fun p n =>
  w p vs _ (same_upd n) n upd_same (DpAll.same (mask_upd n) h)
theorem DOpN.op {g : D → D → R (List D)} (h : DOpN X r g) : DOp X r (fun x y => (g x y).map .list) := fun Y A H x y dx dy c hx hy Q w => h Y A H x y dx dy c hx hy Q (w.of_l c)
theorem dop_catL : DOpN X (rCatL X.K) gCatL := fun Y A H x y dx dy c hx hy Q w => by
  cases dx with
  | list a =>
    cases dy with
    | list b =>
      obtain ⟨p, vs, rfl, h1, h2⟩ := dp_list hx
      obtain ⟨q, us, rfl, h3, h4⟩ := dp_list hy
      obtain ⟨e, w⟩ := WpL.when w
      refine ⟨p, q, vs, us, rfl, rfl, sqL_same mask_le h1, sqL_same mask_le h3, ?_, w.newly (h2.app h4)⟩
      rw [h2.len, h4.len]
      exact of_decide_eq_true e
    | _ => exact w.elim
  | _ => exact w.elim
def gCatT : D → D → R D := fun x y => match x, y with
  | .tuple a, .tuple b => R.when (szOk (a.length + b.length)) (.ok (.tuple (a ++ b)))
  | _, _ => .bad
theorem mask_upd' {A : Addr → Prop} {H : Hp} {p : Addr} {o : HO} (c : Cov A H) (h : H p = none) : mask A (upd H p o) p = some o := mask_some.mpr ⟨c.new h, upd_same⟩
theorem WpE.newT {K : PySem.W.Frag} {Y : Wx} {A : Addr → Prop} {H : Hp} {ds : List D} {vs : List V} {Q : VK} (w : WpE K Y A H (.ok (.tuple ds)) Q) (c : Cov A H) (h : DpAll K (mask A H) vs ds) : ∀ p, H p = none → Q (.ref p) (upd H p (.tup vs)) := fun p n =>
  w _ _ (same_upd n) (.tup (SqT.of (mask_upd' c n)) (DpAll.same (Same.mask (same_upd n)) h))
theorem dop_catT : DOp X (rCatA X.K) gCatT := fun Y A H x y dx dy c hx hy Q w => by
  cases dx with
  | tuple a =>
    cases dy with
    | tuple b =>
      obtain ⟨p, vs, rfl, h1, h2⟩ := dp_tup hx
      obtain ⟨q, us, rfl, h3, h4⟩ := dp_tup hy
      obtain ⟨e, w⟩ := WpE.when w
      refine ⟨p, q, vs, us, rfl, rfl, sqT_same mask_le h1, sqT_same mask_le h3, ?_, fun e => ?_, fun _ e => ?_, fun _ _ => w.newT c (h2.app h4)⟩
      · rw [h2.len, h4.len]
        exact of_decide_eq_true e
      · subst e
        cases h2
        exact w.here hy
      · subst e
        cases h4
        rw [List.append_nil] at w
        exact w.here hx
    | _ => exact w.elim
  | _ => exact w.elim
def cLen (i j : Str) : Bool := szOk (i.length + j.length)
theorem dop_catS : DOp X (fun x y H Q => ∃ i j, x = .str i ∧ y = .str j ∧ i.length + j.length ≤ sizeLine ∧ Q (.str (i ++ j)) H) (gS cLen fun i j => .str (i ++ j)) := fun Y A H x y dx dy c hx hy Q w => by
  cases hx with
  | str i =>
    cases hy with
    | str j =>
      obtain ⟨e, w⟩ := WpE.when w
      exact ⟨i, j, rfl, rfl, of_decide_eq_true e, w.here (.str _)⟩
    | _ => exact w.elim
  | _ => exact w.elim
/-- +: ints, texts, tuples, lists -/
def gAdd : D → D → R D := alt (gI tt2 fun i j => .int (i + j)) (alt (gS cLen fun i j => .str (i ++ j)) (alt gCatT fun x y => (gCatL x y).map .list))
def rAddD (K : PySem.W.Frag) : R2 := rOr (rI0 fun i j => .int (i + j)) (rOr (fun x y H Q => ∃ i j, x = .str i ∧ y = .str j ∧ i.length + j.length ≤ sizeLine ∧ Q (.str (i ++ j)) H) (rOr (rCatA K) (rCatL K)))
theorem op_addD : OpR X (binaryOp .Add) (rAddD X.K) := op_add.or (op_add_str.or (op_catA.or op_catL))
theorem dop_add : DOp X (rAddD X.K) gAdd := (dop_I0 fun _ _ _ _ => .int _).or (dop_catS.or (dop_catT.or dop_catL.op))
def gSubI : D → D → R D := gI tt2 fun i j => .int (i - j)
theorem dop_sub : DOp X (rI0 fun i j => .int (i - j)) gSubI := dop_I0 fun _ _ _ _ => .int _
def mulOk (i j : Int) : Bool := decide ((-(2 ^ 64) < i ∧ i < 2 ^ 64) ∨ (-(2 ^ 64) < j ∧ j < 2 ^ 64))
def gMul : D → D → R D := gI mulOk fun i j => .int (i * j)
theorem dop_mul : DOp X (rI CMul fun i j => .int (i * j)) gMul := dop_I (fun i j h => show (-(2 ^ 64) < i ∧ i < 2 ^ 64) ∨ (-(2 ^ 64) < j ∧ j < 2 ^ 64) from of_decide_eq_true h) fun _ _ _ _ => .int _
def modOk (i j : Int) : Bool := decide (0 < j)
def gMod : D → D → R D := gI modOk fun i j => .int (i % j)
theorem dop_mod : DOp X (rI (fun _ j => 0 < j) fun i j => .int (i % j)) gMod := dop_I (fun _ _ h => of_decide_eq_true h) fun _ _ _ _ => .int _
def divOk (i j : Int) : Bool := decide (0 < j ∧ j < 1073741824)
def gDiv : D → D → R D := gI divOk fun i j => .int (i / j)
theorem dop_div : DOp X (rI CDiv fun i j => .int (i / j)) gDiv := dop_I (fun i j h => show 0 < j ∧ j < 1073741824 from of_decide_eq_true h) fun _ _ _ _ => .int _
def powOk (i j : Int) : Bool := decide (0 ≤ j ∧ j ≤ 1000000 ∧ i.natAbs < 2 ^ 64)
def gPow : D → D → R D := gI powOk fun i j => .int (i ^ j.toNat)
theorem dop_pow : DOp X (rI CPow fun i j => .int (i ^ j.toNat)) gPow := dop_I (fun i j h => show 0 ≤ j ∧ j ≤ 1000000 ∧ i.natAbs < 2 ^ 64 from of_decide_eq_true h) fun _ _ _ _ => .int _
/-! list * int, tuple * int -/
def repOk (n : Nat) (k : Int) : Bool := decide (-(2 ^ 63) ≤ k ∧ k < 2 ^ 63 ∧ n * k.toNat ≤ sizeLine)
/-! comparisons -/
def gCmp (p : Int → Int → Bool) : D → D → R D := gI tt2 fun i j => .bool (p i j)
theorem dop_cmp {p : Int → Int → Bool} : DOp X (rI0 fun i j => .bl (p i j)) (gCmp p) := dop_I0 fun _ _ _ _ => .bl _
def shp (d : D) : Bool := SeqAt.shaped d
def gEq : D → D → R D := fun x y => R.when (shp x && shp y) (.ok (.bool (PyData.eqv x y)))
def gNe : D → D → R D := fun x y => R.when (shp x && shp y) (.ok (.bool (!PyData.eqv x y)))
theorem dop_eq : DOp X (rEqD X.K) gEq := fun Y A H x y dx dy c hx hy Q w => by
  obtain ⟨e, w⟩ := WpE.when w
  rw [Bool.and_eq_true] at e
  exact ⟨dx, dy, Dp.same mask_le hx, Dp.same mask_le hy, e.1, e.2, w.here (.bl _)⟩
theorem dop_ne : DOp X (rNeD X.K) gNe := fun Y A H x y dx dy c hx hy Q w => by
  obtain ⟨e, w⟩ := WpE.when w
  rw [Bool.and_eq_true] at e
  exact ⟨dx, dy, Dp.same mask_le hx, Dp.same mask_le hy, e.1, e.2, w.here (.bl _)⟩
def isNone : D → Bool
  | .none => true
  | _ => false
def gIsN (neg : Bool) : D → D → R D := fun x y => match y with
  | .none => .ok (.bool (if neg then !isNone x else isNone x))
  | _ => .bad
theorem dp_isN {K : PySem.W.Frag} {H : Hp} {x : V} {d : D} (h : Dp K H x d) : decide (x = .non) = isNone d := by
  cases h <;> rfl
theorem dop_isN : DOp X rIsN (gIsN false) := fun Y A H x y dx dy c hx hy Q w => by
  cases hy with
  | non => exact ⟨rfl, by rw [dp_isN hx]; exact WpE.here w (.bl _)⟩
  | _ => exact w.elim
theorem dop_notN : DOp X rNotN (gIsN true) := fun Y A H x y dx dy c hx hy Q w => by
  cases hy with
  | non => exact ⟨rfl, by rw [dp_isN hx]; exact WpE.here w (.bl _)⟩
  | _ => exact w.elim
/-! x in list | tuple of flat items -/
def flatD : D → Bool
  | .none => true
  | .bool _ => true
  | .int _ => true
  | .str _ => true
  | _ => false
def seqD : D → Option (List D)
  | .list ds => some ds
  | .tuple ds => some ds
  | _ => none
def gIn (neg : Bool) : D → D → R D := fun x y => match seqD y with
  | some ds => R.when (flatD x && ds.all flatD) (.ok (.bool (if neg then !ds.any fun y => PyData.eqv y x else ds.any fun y => PyData.eqv y x)))
  | none => .bad
theorem dp_flat {K : PySem.W.Frag} {H : Hp} {x : V} {d : D} (h : Dp K H x d) : flatD d = true → flatV x = true := by
  cases h <;> first | (intro; rfl) | (intro z; cases z)
theorem dp_flats {K : PySem.W.Frag} {H : Hp} : ∀ {ds : List D} {xs : List V}, DpAll K H xs ds → ds.all flatD = true → xs.all flatV = true
  | _, _, .nil, _ => rfl
  | _, _, .cons h1 h2, e => by
    rw [List.all_cons, Bool.and_eq_true] at e ⊢
    exact ⟨dp_flat h1 e.1, dp_flats h2 e.2⟩
theorem dp_eqv {K : PySem.W.Frag} {H : Hp} {x y : V} {d e : D} (h : Dp K H x d) (h' : Dp K H y e) (fd : flatD d = true) (fe : flatD e = true) : eqV x y = PyData.eqv d e := by
  cases h <;> first | (cases fd; done) | skip
  all_goals (cases h' <;> first | (cases fe; done) | skip)
  all_goals first
    | (simp only [eqV, PyData.eqv]; done)
    | (simp [eqV, PyData.eqv]; done)
    | (simp only [eqV, PyData.eqv]; split <;> simp_all)
theorem dp_inV {K : PySem.W.Frag} {H : Hp} {x : V} {d : D} (h : Dp K H x d) (fd : flatD d = true) : ∀ {ds : List D} {xs : List V}, DpAll K H xs ds → ds.all flatD = true → inV x xs = ds.any fun y => PyData.eqv y d
  | _, _, .nil, _ => rfl
  | _, _, .cons h1 h2, e => by
    rw [List.all_cons, Bool.and_eq_true] at e
    have ih := dp_inV h fd h2 e.2
    unfold inV at ih ⊢
    rw [List.any_cons, List.any_cons, ih, dp_eqv h1 h e.1 fd]
theorem dop_in {neg : Bool} : DOp X (rIn X.K neg) (gIn neg) := fun Y A H x y dx dy c hx hy Q w => by
  have key : ∀ (a : Addr) (vs : List V) (ds : List D), y = .ref a → (SqL X.K H a vs ∨ SqT X.K H a vs) → DpAll X.K (mask A H) vs ds → WpE X.K Y A H (R.when (flatD dx && ds.all flatD) (.ok (.bool (if neg then !ds.any fun y => PyData.eqv y dx else ds.any fun y => PyData.eqv y dx)))) Q → rIn X.K neg x y H Q := fun a vs ds ey hs ha w => by
    obtain ⟨e, w⟩ := WpE.when w
    rw [Bool.and_eq_true] at e
    refine ⟨a, vs, ey, hs, dp_flat hx e.1, dp_flats ha e.2, ?_⟩
    rw [dp_inV hx e.1 ha e.2]
    exact w.here (.bl _)
  cases dy with
  | list ds =>
    obtain ⟨a, vs, e, h1, h2⟩ := dp_list hy
    exact key a vs ds e (.inl (sqL_same mask_le h1)) h2 w
  | tuple ds =>
    obtain ⟨a, vs, e, h1, h2⟩ := dp_tup hy
    exact key a vs ds e (.inr (sqT_same mask_le h1)) h2 w
  | _ => exact w.elim
/-! a[i] -/
def gIx : D → D → R D := fun x y => match x, y with
  | .list ds, .int i => match atI ds i with
    | some d => .ok d
    | none => .bad
  | .tuple ds, .int i => match atI ds i with
    | some d => .ok d
    | none => .bad
  | .str z, .int i => R.when (szOk z.length) (match atI z.cps.toList i with
    | some c => .ok (.str ⟨#[c]⟩)
    | none => .bad)
  | _, _ => .bad
theorem dp_atI {K : PySem.W.Frag} {H : Hp} {vs : List V} {ds : List D} {i : Int} {d : D} (h : DpAll K H vs ds) (e : atI ds i = some d) : ∃ v, atI vs i = some v ∧ Dp K H v d := by
  unfold atI at e ⊢
  rw [h.len]
  cases q : ixN ds.length i with
  | none => rw [q] at e; cases e
  | some j =>
    rw [q] at e
    exact h.get e
theorem ix_any : IxR X (rIx X.K) := ix_list.or (ix_tup.or ix_str)
theorem dop_ix : DOp X (rIx X.K) gIx := fun Y A H x y dx dy c hx hy Q w => by
  cases hy with
  | int i =>
    cases dx with
    | list ds =>
      obtain ⟨a, vs, rfl, h1, h2⟩ := dp_list hx
      have w' : WpE X.K Y A H (match atI ds i with
        | some d => .ok d
        | none => .bad) Q := w
      cases e : atI ds i with
      | none => rw [e] at w'; exact w'.elim
      | some d =>
        rw [e] at w'
        obtain ⟨v, q1, q2⟩ := dp_atI h2 e
        exact .inl ⟨a, vs, i, v, rfl, rfl, sqL_same mask_le h1, q1, w'.here q2⟩
    | tuple ds =>
      obtain ⟨a, vs, rfl, h1, h2⟩ := dp_tup hx
      have w' : WpE X.K Y A H (match atI ds i with
        | some d => .ok d
        | none => .bad) Q := w
      cases e : atI ds i with
      | none => rw [e] at w'; exact w'.elim
      | some d =>
        rw [e] at w'
        obtain ⟨v, q1, q2⟩ := dp_atI h2 e
        exact .inr (.inl ⟨a, vs, i, v, rfl, rfl, sqT_same mask_le h1, q1, w'.here q2⟩)
    | str z =>
      cases hx with
      | str z =>
      obtain ⟨ez, w'⟩ := WpE.when w
      cases e : atI z.cps.toList i with
      | none => rw [e] at w'; exact w'.elim
      | some k =>
        rw [e] at w'
        exact .inr (.inr ⟨z, i, k, rfl, rfl, of_decide_eq_true ez, e, w'.here (.str _)⟩)
    | _ => exact w.elim
  | _ => cases dx <;> exact w.elim
end
end L2
namespace L2
open PySem PySem.Spec PyProof.Rows
section
variable {X : Cx} {Y : Wy}
/-! ## argument lists, displays -/
def mNil : DS → R (List D) := fun _ => .ok []
def mCons (m : DS → R D) (ms : DS → R (List D)) : DS → R (List D) := fun δ => (m δ).bind fun d => (ms δ).map fun ds => d :: ds
theorem da_nil : DA X Y [] mNil := ⟨_, pa_nil, fun σ δ H A c s Q w => w [] H (Same.refl H) .nil⟩
theorem da_cons {e : Expr} {es : List Expr} {m : DS → R D} {ms : DS → R (List D)} (h : DE X Y e m) (hs : DA X Y es ms) (he : starEach (e :: es) X.env = (false, eval e X.env) :: starEach es X.env := by rfl) : DA X Y (e :: es) (mCons m ms) := by
  obtain ⟨t, p, q⟩ := h
  obtain ⟨ts, ps, qs⟩ := hs
  refine ⟨_, pa_cons p ps he, fun σ δ H A c s Q w => ?_⟩
  refine q σ δ H A c s _ ?_
  unfold mCons at w
  cases e1 : m δ with
  | bad => rw [e1] at w; exact w
  | ex n => rw [e1] at w; exact w
  | ok d =>
    rw [e1] at w
    refine fun v H1 t1 r1 => qs σ δ H1 A (c.mono t1) (s.mono t1) _ ?_
    have w' : WpA X.K (Y.at σ) A H ((ms δ).map fun ds => d :: ds) Q := w
    cases e2 : ms δ with
    | bad => rw [e2] at w'; exact w'
    | ex n => rw [e2] at w'; exact fun H' t => w' H' (t1.trans t)
    | ok ds =>
      rw [e2] at w'
      exact fun vs H2 t2 r2 => w' (v :: vs) H2 (t1.trans t2) (.cons (Dp.same (Same.mask t2) r1) r2)
/-- behind an argument list -/
theorem da_seq {t : TA} {ms : DS → R (List D)} (h : ∀ (σ : St) (δ : DS) (H : Hp) (A : Addr → Prop), Cov A H → SR X.K A σ δ H → ∀ Q : List V → Hp → Prop, WpA X.K (Y.at σ) A H (ms δ) Q → t σ H Q) {σ : St} {δ : DS} {H : Hp} {A : Addr → Prop} (c : Cov A H) (s : SR X.K A σ δ H)
    {f : List D → R D} {P : List V → Hp → Prop} {Q : VK} (w : WpE X.K (Y.at σ) A H ((ms δ).bind f) Q) (k : ∀ ds vs H1, Same H H1 → DpAll X.K (mask A H1) vs ds → WpE X.K (Y.at σ) A H1 (f ds) Q → P vs H1) : t σ H P := by
  refine h σ δ H A c s P ?_
  cases e : ms δ with
  | bad => rw [e] at w; exact w
  | ex n => rw [e] at w; exact w
  | ok d =>
    rw [e] at w
    exact fun v H1 t q => k d v H1 t q (WpE.mono w t)
theorem da_seqN {t : TA} {ms : DS → R (List D)} (h : ∀ (σ : St) (δ : DS) (H : Hp) (A : Addr → Prop), Cov A H → SR X.K A σ δ H → ∀ Q : List V → Hp → Prop, WpA X.K (Y.at σ) A H (ms δ) Q → t σ H Q) {σ : St} {δ : DS} {H : Hp} {A : Addr → Prop} (c : Cov A H) (s : SR X.K A σ δ H)
    {f : List D → R (List D)} {P : List V → Hp → Prop} {Q : VK} (w : WpL X.K (Y.at σ) A H ((ms δ).bind f) Q) (k : ∀ ds vs H1, Same H H1 → DpAll X.K (mask A H1) vs ds → WpL X.K (Y.at σ) A H1 (f ds) Q → P vs H1) : t σ H P := by
  refine h σ δ H A c s P ?_
  cases e : ms δ with
  | bad => rw [e] at w; exact w
  | ex n => rw [e] at w; exact w
  | ok d =>
    rw [e] at w
    exact fun v H1 t q => k d v H1 t q (WpL.mono w t)
def mTup (ms : DS → R (List D)) : DS → R D := fun δ => (ms δ).bind fun ds => R.when (szOk ds.length) (.ok (.tuple ds))
theorem de_tup {es : List Expr} {ms : DS → R (List D)} {x1 pos} (h : DA X Y es ms) : DE X Y (.Tuple es x1 pos) (mTup ms) := by
  obtain ⟨t, p, q⟩ := h
  refine ⟨_, pe_tup p, fun σ δ H A c s Q w => da_seq (Y := Y) q c s w fun ds vs H1 t1 r1 w1 => ?_⟩
  obtain ⟨e, w1⟩ := WpE.when w1
  exact ⟨by rw [r1.len]; exact of_decide_eq_true e, w1.newT (c.mono t1) r1⟩
def mLst (ms : DS → R (List D)) : DS → R (List D) := fun δ => (ms δ).bind fun ds => R.when (szOk ds.length) (.ok ds)
theorem dn_lst {es : List Expr} {ms : DS → R (List D)} {pos} (h : DA X Y es ms) : DN X Y (.List es pos) (mLst ms) := by
  obtain ⟨t, p, q⟩ := h
  refine ⟨_, pe_lst p, fun σ δ H A c s Q w => da_seqN (Y := Y) q c s w fun ds vs H1 t1 r1 w1 => ?_⟩
  obtain ⟨e, w1⟩ := WpL.when w1
  exact ⟨by rw [r1.len]; exact of_decide_eq_true e, w1.newly r1⟩
/-- two-place operations that give new lists -/
theorem dn_op {op : Operator} {r : R2} {g : D → D → R (List D)} {a b : Expr} {pos : Pos} {ma mb : DS → R D} (ho : OpR X (binaryOp op) r) (hr : DOpN X r g) (ha : DE X Y a ma) (hb : DE X Y b mb) : DN X Y (.BinOp a op b pos) (fun δ => (ma δ).bind fun x => (mb δ).bind fun y => g x y) := by
  obtain ⟨ta, pa, qa⟩ := ha
  obtain ⟨tb, pb, qb⟩ := hb
  refine ⟨_, pe_op ho pa pb, fun σ δ H A c s Q w => qa σ δ H A c s _ ?_⟩
  replace w : WpL X.K (Y.at σ) A H ((ma δ).bind fun x => (mb δ).bind fun y => g x y) Q := w
  cases e1 : ma δ with
  | bad => rw [e1] at w; exact w
  | ex n => rw [e1] at w; exact w
  | ok dx =>
    rw [e1] at w
    refine fun x H1 t1 r1 => qb σ δ H1 A (c.mono t1) (s.mono t1) _ ?_
    have w' : WpL X.K (Y.at σ) A H ((mb δ).bind fun y => g dx y) Q := w
    cases e2 : mb δ with
    | bad => rw [e2] at w'; exact w'
    | ex n => rw [e2] at w'; exact fun H' t => w' H' (t1.trans t)
    | ok dy =>
      rw [e2] at w'
      exact fun y H2 t2 r2 => hr (Y.at σ) A H2 x y dx dy ((c.mono t1).mono t2) (Dp.same (Same.mask t2) r1) r2 Q (WpL.mono w' (t1.trans t2))
theorem dn_cat {a b : Expr} {pos : Pos} {ma mb : DS → R D} (ha : DE X Y a ma) (hb : DE X Y b mb) : DN X Y (.BinOp a .Add b pos) (fun δ => (ma δ).bind fun x => (mb δ).bind fun y => gCatL x y) := dn_op op_catL dop_catL ha hb
/-- [..] * n -/
def mRep (ma : DS → R (List D)) (mb : DS → R D) : DS → R (List D) := fun δ => (ma δ).bind fun ds => (mb δ).bind fun y => match y with
  | .int k => R.when (repOk ds.length k) (.ok (List.replicate k.toNat ds).flatten)
  | _ => .bad
theorem DpAll.flatRep {K : PySem.W.Frag} {H : Hp} {ds : List D} {vs : List V} (h : DpAll K H vs ds) : ∀ n : Nat, DpAll K H (List.replicate n vs).flatten (List.replicate n ds).flatten
  | 0 => .nil
  | n + 1 => by
    rw [List.replicate_succ, List.replicate_succ, List.flatten_cons, List.flatten_cons]
    exact h.app (DpAll.flatRep h n)
theorem dn_rep {a b : Expr} {pos : Pos} {ma : DS → R (List D)} {mb : DS → R D} (ha : DN X Y a ma) (hb : DE X Y b mb) : DN X Y (.BinOp a .Mult b pos) (mRep ma mb) := by
  obtain ⟨ta, pa, qa⟩ := ha
  obtain ⟨tb, pb, qb⟩ := hb
  refine ⟨_, pe_op op_rep pa pb, fun σ δ H A c s Q w => qa σ δ H A c s _ ?_⟩
  unfold mRep at w
  cases e1 : ma δ with
  | bad => rw [e1] at w; exact w
  | ex n => rw [e1] at w; exact w
  | ok ds =>
    rw [e1] at w
    refine fun p vs H1 t1 n1 h1 r1 => qb σ δ H1 A (c.mono t1) (s.mono t1) _ ?_
    have w' : WpL X.K (Y.at σ) A H ((mb δ).bind fun y => match y with
      | .int k => R.when (repOk ds.length k) (.ok (List.replicate k.toNat ds).flatten)
      | _ => .bad) Q := w
    cases e2 : mb δ with
    | bad => rw [e2] at w'; exact w'
    | ex n => rw [e2] at w'; exact fun H' t => w' H' (t1.trans t)
    | ok dy =>
      rw [e2] at w'
      refine fun y H2 t2 r2 => ?_
      cases r2 with
      | int k =>
        obtain ⟨e, w3⟩ := WpL.when (r := .ok (List.replicate k.toNat ds).flatten) w'
        obtain ⟨b1, b2, b3⟩ := of_decide_eq_true e
        refine ⟨p, k, vs, rfl, rfl, t2 _ _ h1, b1, b2, by rw [r1.len]; exact b3, ?_⟩
        exact (WpL.mono w3 (t1.trans t2)).newly ((DpAll.same ((mask_sub fun a h => .inl h).trans (Same.mask t2)) r1).flatRep k.toNat)
      | _ => exact w'.elim
/-! ## built-in calls -/
def DCall (X : Cx) (r : List V → Hp → VK → Prop) (g : List D → R D) : Prop := ∀ (Y : Wx) (A : Addr → Prop) (H : Hp) (vs : List V) (ds : List D), Cov A H → DpAll X.K (mask A H) vs ds → ∀ Q : VK, WpE X.K Y A H (g ds) Q → r vs H Q
def DCallN (X : Cx) (r : List V → Hp → VK → Prop) (g : List D → R (List D)) : Prop := ∀ (Y : Wx) (A : Addr → Prop) (H : Hp) (vs : List V) (ds : List D), Cov A H → DpAll X.K (mask A H) vs ds → ∀ Q : VK, WpL X.K Y A H (g ds) Q → r vs H Q
def mCall (g : List D → R D) (ms : DS → R (List D)) : DS → R D := fun δ => (ms δ).bind g
def mCallN (g : List D → R (List D)) (ms : DS → R (List D)) : DS → R (List D) := fun δ => (ms δ).bind g
section
variable {x : Str} {p pos : Pos} {e : Expr} {es : List Expr} {ms : DS → R (List D)} {id T : String} {r r' : List V → Hp → VK → Prop} {g g' : List D → R D} {gn : List D → R (List D)}
theorem de_callB (hc : CallR X (.builtin id) r) (hr : DCall X r g) (hg : Gl X x) (hm : X.mg x = none) (hv : bootBuiltins x = some (.builtin id)) (ha : DA X Y (e :: es) ms) (hn : x ≠ "__name__" := by decide) (hdb : (x == ("__debug__" : Str)) = false := by decide)
    (he : starEach (e :: es) X.env = (false, eval e X.env) :: starEach es X.env := by rfl) (hpl : (backTo pos (starEach es X.env)).any (·.1) = false := by rfl) : DE X Y (.Call (.Name x p) (e :: es) [] pos) (mCall g ms) := by
  obtain ⟨t, pa, q⟩ := ha
  exact ⟨_, pe_callB hc hg hm hv pa hn hdb he hpl, fun σ δ H A c s Q w => da_seq (Y := Y) q c s w fun ds vs H1 t1 r1 w1 => hr (Y.at σ) A H1 vs ds (c.mono t1) r1 Q w1⟩
theorem de_callTy (hc : CallR X (.type T) r) (hr : DCall X r g) (hg : Gl X x) (hm : X.mg x = none) (hv : bootBuiltins x = some (.type T)) (ha : DA X Y (e :: es) ms) (hn : x ≠ "__name__" := by decide) (hdb : (x == ("__debug__" : Str)) = false := by decide)
    (he : starEach (e :: es) X.env = (false, eval e X.env) :: starEach es X.env := by rfl) (hpl : (backTo pos (starEach es X.env)).any (·.1) = false := by rfl) : DE X Y (.Call (.Name x p) (e :: es) [] pos) (mCall g ms) := by
  obtain ⟨t, pa, q⟩ := ha
  exact ⟨_, pe_callTy hc hg hm hv pa hn hdb he hpl, fun σ δ H A c s Q w => da_seq (Y := Y) q c s w fun ds vs H1 t1 r1 w1 => hr (Y.at σ) A H1 vs ds (c.mono t1) r1 Q w1⟩
theorem dn_callTy (hc : CallR X (.type T) r) (hr : DCallN X r gn) (hg : Gl X x) (hm : X.mg x = none) (hv : bootBuiltins x = some (.type T)) (ha : DA X Y (e :: es) ms) (hn : x ≠ "__name__" := by decide) (hdb : (x == ("__debug__" : Str)) = false := by decide)
    (he : starEach (e :: es) X.env = (false, eval e X.env) :: starEach es X.env := by rfl) (hpl : (backTo pos (starEach es X.env)).any (·.1) = false := by rfl) : DN X Y (.Call (.Name x p) (e :: es) [] pos) (mCallN gn ms) := by
  obtain ⟨t, pa, q⟩ := ha
  exact ⟨_, pe_callTy hc hg hm hv pa hn hdb he hpl, fun σ δ H A c s Q w => da_seqN (Y := Y) q c s w fun ds vs H1 t1 r1 w1 => hr (Y.at σ) A H1 vs ds (c.mono t1) r1 Q w1⟩
def altC (g g' : List D → R D) : List D → R D := fun x => match g x with
  | .bad => g' x
  | z => z
theorem CallR.orD {f : Value} (h : CallR X f r) (h' : CallR X f r') : CallR X f (fun xs H Q => r xs H Q ∨ r' xs H Q) := fun pins s σ H xs us Q I rx q => by
  rcases q with q | q
  · exact h pins s σ H xs us Q I rx q
  · exact h' pins s σ H xs us Q I rx q
theorem DCall.or (h : DCall X r g) (h' : DCall X r' g') : DCall X (fun xs H Q => r xs H Q ∨ r' xs H Q) (altC g g') := fun Y A H vs ds c hx Q w => by
  unfold altC at w
  cases e : g ds with
  | bad => rw [e] at w; exact .inr (h' Y A H vs ds c hx Q w)
  | ex n => rw [e] at w; exact .inl (h Y A H vs ds c hx Q (by rw [e]; exact w))
  | ok d => rw [e] at w; exact .inl (h Y A H vs ds c hx Q (by rw [e]; exact w))
end
/-! len -/
def gLen : List D → R D := fun ds => match ds with
  | [.list xs] => .ok (.int xs.length)
  | [.tuple xs] => .ok (.int xs.length)
  | [.str z] => R.when (szOk z.length) (.ok (.int z.length))
  | _ => .bad
def rLenD (K : PySem.W.Frag) : List V → Hp → VK → Prop := fun xs H Q => (∃ p ys, xs = [.ref p] ∧ (SqL K H p ys ∨ SqT K H p ys) ∧ Q (.int ys.length) H) ∨ ∃ z, xs = [.str z] ∧ z.length ≤ sizeLine ∧ Q (.int z.length) H
theorem call_lenD2 : CallR X (.builtin "len") (rLenD X.K) := call_len_seq.orD call_len_str
theorem dpAll1 {K : PySem.W.Frag} {H : Hp} {vs : List V} {d : D} (h : DpAll K H vs [d]) : ∃ v, vs = [v] ∧ Dp K H v d := by
  cases h with
  | cons h1 h2 => cases h2; exact ⟨_, rfl, h1⟩
theorem dpAll2 {K : PySem.W.Frag} {H : Hp} {vs : List V} {d e : D} (h : DpAll K H vs [d, e]) : ∃ v u, vs = [v, u] ∧ Dp K H v d ∧ Dp K H u e := by
  cases h with
  | cons h1 h2 =>
    obtain ⟨u, rfl, h3⟩ := dpAll1 h2
    exact ⟨_, u, rfl, h1, h3⟩
theorem dc_len : DCall X (rLenD X.K) gLen := fun Y A H vs ds c hx Q w => by
  unfold gLen at w
  split at w
  · rename_i xs
    obtain ⟨v, rfl, h⟩ := dpAll1 hx
    obtain ⟨a, us, rfl, h1, h2⟩ := dp_list h
    exact .inl ⟨a, us, rfl, .inl (sqL_same mask_le h1), by rw [h2.len]; exact w.here (.int _)⟩
  · rename_i xs
    obtain ⟨v, rfl, h⟩ := dpAll1 hx
    obtain ⟨a, us, rfl, h1, h2⟩ := dp_tup h
    exact .inl ⟨a, us, rfl, .inr (sqT_same mask_le h1), by rw [h2.len]; exact w.here (.int _)⟩
  · rename_i z
    obtain ⟨v, rfl, h⟩ := dpAll1 hx
    cases h
    obtain ⟨e, w⟩ := WpE.when w
    exact .inr ⟨z, rfl, of_decide_eq_true e, w.here (.int _)⟩
  · exact w.elim
/-! list(..), tuple(..) -/
def gList : List D → R (List D) := fun ds => match ds with
  | [.list xs] => .ok xs
  | [.tuple xs] => .ok xs
  | _ => .bad
theorem dc_list : DCallN X (fun xs H Q => ∃ p ys, xs = [.ref p] ∧ (SqL X.K H p ys ∨ SqT X.K H p ys) ∧ ∀ l, H l = none → Q (.ref l) (upd H l (.lst ys))) gList := fun Y A H vs ds c hx Q w => by
  unfold gList at w
  split at w
  · obtain ⟨v, rfl, h⟩ := dpAll1 hx
    obtain ⟨a, us, rfl, h1, h2⟩ := dp_list h
    exact ⟨a, us, rfl, .inl (sqL_same mask_le h1), w.newly h2⟩
  · obtain ⟨v, rfl, h⟩ := dpAll1 hx
    obtain ⟨a, us, rfl, h1, h2⟩ := dp_tup h
    exact ⟨a, us, rfl, .inr (sqT_same mask_le h1), w.newly h2⟩
  · exact w.elim
def gTuple : List D → R D := fun ds => match ds with
  | [.list xs] => .ok (.tuple xs)
  | [.tuple xs] => .ok (.tuple xs)
  | _ => .bad
theorem dc_tuple : DCall X (fun xs H Q => ∃ p ys, xs = [.ref p] ∧ ((SqL X.K H p ys ∧ ∀ l, H l = none → Q (.ref l) (upd H l (.tup ys))) ∨ (SqT X.K H p ys ∧ Q (.ref p) H))) gTuple := fun Y A H vs ds c hx Q w => by
  unfold gTuple at w
  split at w
  · obtain ⟨v, rfl, h⟩ := dpAll1 hx
    obtain ⟨a, us, rfl, h1, h2⟩ := dp_list h
    exact ⟨a, us, rfl, .inl ⟨sqL_same mask_le h1, w.newT c h2⟩⟩
  · obtain ⟨v, rfl, h⟩ := dpAll1 hx
    obtain ⟨a, us, rfl, h1, h2⟩ := dp_tup h
    exact ⟨a, us, rfl, .inr ⟨sqT_same mask_le h1, w.here h⟩⟩
  · exact w.elim
/-! all, any of bools -/
def boolsD : List D → Option (List Bool)
  | [] => some []
  | .bool b :: ds => (boolsD ds).map fun bs => b :: bs
  | _ => none
theorem dp_bools {K : PySem.W.Frag} {H : Hp} : ∀ {ds : List D} {vs : List V} {bs : List Bool}, DpAll K H vs ds → boolsD ds = some bs → vs = bs.map V.bl
  | _, _, _, .nil, e => by cases e; rfl
  | d :: ds, _, bs, .cons h1 h2, e => by
    cases h1 with
    | bl b =>
      have e' : (boolsD ds).map (fun bs => b :: bs) = some bs := e
      cases q : boolsD ds with
      | none => rw [q] at e'; cases e'
      | some cs =>
        rw [q] at e'
        cases e'
        rw [dp_bools h2 q]; rfl
    | _ => cases e
def gAll : List D → R D := fun ds => match ds with
  | [.list xs] => match boolsD xs with
    | some bs => .ok (.bool (bs.all id))
    | none => .bad
  | _ => .bad
def gAny : List D → R D := fun ds => match ds with
  | [.list xs] => match boolsD xs with
    | some bs => .ok (.bool (bs.any id))
    | none => .bad
  | _ => .bad
theorem dc_all : DCall X (rAll X.K) gAll := fun Y A H vs ds c hx Q w => by
  unfold gAll at w
  split at w
  · rename_i xs
    obtain ⟨v, rfl, h⟩ := dpAll1 hx
    obtain ⟨a, us, rfl, h1, h2⟩ := dp_list h
    cases e : boolsD xs with
    | none => rw [e] at w; exact w.elim
    | some bs =>
      rw [e] at w
      have q := dp_bools h2 e
      subst q
      exact ⟨a, bs, rfl, sqL_same mask_le h1, WpE.here (d := .bool _) w (.bl _)⟩
  · exact w.elim
theorem dc_any : DCall X (rAny X.K) gAny := fun Y A H vs ds c hx Q w => by
  unfold gAny at w
  split at w
  · rename_i xs
    obtain ⟨v, rfl, h⟩ := dpAll1 hx
    obtain ⟨a, us, rfl, h1, h2⟩ := dp_list h
    cases e : boolsD xs with
    | none => rw [e] at w; exact w.elim
    | some bs =>
      rw [e] at w
      have q := dp_bools h2 e
      subst q
      exact ⟨a, bs, rfl, sqL_same mask_le h1, WpE.here (d := .bool _) w (.bl _)⟩
  · exact w.elim
/-! isinstance(x, T), T a built-in type -/
def tyD : D → String
  | .none => "NoneType"
  | .bool _ => "bool"
  | .int _ => "int"
  | .str _ => "str"
  | .list _ => "list"
  | .tuple _ => "tuple"
  | .dict _ => "dict"
theorem dp_ty {K : PySem.W.Frag} {H : Hp} {x : V} {d : D} (h : Dp K H x d) : TyX K H x (.type (tyD d)) := by
  cases h with
  | non => exact .base .non
  | bl b => exact .base (.bl b)
  | int i => exact .base (.int i)
  | str z => exact .base (.str z)
  | lst hs ha =>
    rcases hs with (h | ⟨o, h⟩) | ⟨o, its, n, h, c, _⟩
    · exact .base (.lst h)
    · exact .base (.frz h)
    · exact .kList h c
  | tup hs ha =>
    rcases hs with (h | ⟨o, h⟩) | ⟨o, its, n, h, c, _⟩
    · exact .base (.tup h)
    · exact .fTuple h
    · exact .kTuple h c
def gIs (T : String) : D → R D := fun d => match kitB (tyD d) T with
  | some b => .ok (.bool b)
  | none => .bad
theorem de_isi {y : Str} {p p' pos : Pos} {e : Expr} {m : DS → R D} {T : String} (hg : Gl X "isinstance") (hm : X.mg "isinstance" = none) (hgT : Gl X y) (hmT : X.mg y = none) (hv : bootBuiltins y = some (.type T)) (he : DE X Y e m)
    (hs : starEach (e :: [.Name y p']) X.env = (false, eval e X.env) :: starEach [.Name y p'] X.env := by rfl) (hn : y ≠ "__name__" := by decide) (hd : (y == ("__debug__" : Str)) = false := by decide) :
    DE X Y (.Call (.Name "isinstance" p) [e, .Name y p'] [] pos) (fun δ => (m δ).bind (gIs T)) := by
  obtain ⟨t, pe, q⟩ := he
  refine ⟨_, pe_callB call_isi hg hm (by decide +kernel) (pa_cons pe (pa_cons (pe_bltn (v := .ty T) hgT hmT hv rfl hn hd) pa_nil) hs) (by decide) (by decide) hs, fun σ δ H A c s Q w => de_seq (Y := Y) q c s w fun d v H1 t1 r1 w1 => ?_⟩
  unfold gIs at w1
  cases k : kitB (tyD d) T with
  | none => rw [k] at w1; exact w1.elim
  | some b =>
    rw [k] at w1
    exact ⟨v, .ty T, _, _, b, rfl, .ty T, dp_ty (Dp.same mask_le r1), kit_ty k, WpE.here (d := .bool b) w1 (.bl b)⟩
end
end L2
namespace L2
open PySem PySem.Spec PyProof.Rows
section
variable {X : Cx} {Y : Wy}
/-! ## tests -/
def boolD : D → R Bool
  | .bool b => .ok b
  | _ => .bad
def mB (m : DS → R D) : DS → R Bool := fun δ => (m δ).bind boolD
theorem WpT.here {Z : Wx} {H : Hp} {b : Bool} {Q : Bool → Hp → Prop} (w : WpT Z H (.ok b) Q) : Q b H := w H (Same.refl H)
/-- behind an expression, a test -/
theorem dt_seq {t : TE} {m : DS → R D} (h : ∀ (σ : St) (δ : DS) (H : Hp) (A : Addr → Prop), Cov A H → SR X.K A σ δ H → ∀ Q : VK, WpE X.K (Y.at σ) A H (m δ) Q → t σ H Q) {σ : St} {δ : DS} {H : Hp} {A : Addr → Prop} (c : Cov A H) (s : SR X.K A σ δ H)
    {f : D → R Bool} {P : VK} {Q : Bool → Hp → Prop} (w : WpT (Y.at σ) H ((m δ).bind f) Q) (k : ∀ d v H1, Same H H1 → Dp X.K (mask A H1) v d → WpT (Y.at σ) H1 (f d) Q → P v H1) : t σ H P := by
  refine h σ δ H A c s P ?_
  cases e : m δ with
  | bad => rw [e] at w; exact w
  | ex n => rw [e] at w; exact w
  | ok d =>
    rw [e] at w
    exact fun v H1 t q => k d v H1 t q (WpT.mono w t)
theorem wp_B {Z : Wx} {H : Hp} {d : D} {v : V} {K : PySem.W.Frag} {A : Addr → Prop} {Q : Bool → Hp → Prop} (r : Dp K (mask A H) v d) (w : WpT Z H (boolD d) Q) : ∃ k, v = .bl k ∧ Q k H := by
  cases r with
  | bl b => exact ⟨b, rfl, WpT.here w⟩
  | _ => exact w.elim
theorem dt_cmp {op : CmpOp} {r : R2} {g : D → D → R D} {a b : Expr} {pos : Pos} {ma mb : DS → R D} (ho : OpR X (compareOp op) r) (hr : DOp X r g) (ha : DE X Y a ma) (hb : DE X Y b mb) (hm : behindInMarks op b = false := by first | exact nobehind _ (by decide) (by decide) | rfl) :
    DT X Y (.Compare a [op] [b] pos) (mB (mBin g ma mb)) := by
  obtain ⟨ta, pa, qa⟩ := ha
  obtain ⟨tb, pb, qb⟩ := hb
  exact ⟨_, pt_cmpR ho pa pb hm, fun σ δ H A c s Q w => dt_seq (Y := Y) (de_opt (f := compareOp op) hr qa qb) c s w fun d v H1 t1 r1 w1 => wp_B r1 w1⟩
theorem dt_val {e : Expr} {m : DS → R D} (h : DE X Y e m) (he : ∀ whole, isTrue e X.env whole = (do let v ← whole; standAt e.pos; holding [v] (truthy v)) := by intro _; rfl) : DT X Y e (mB m) := by
  obtain ⟨t, p, q⟩ := h
  exact ⟨_, pt_val p he, fun σ δ H A c s Q w => dt_seq (Y := Y) q c s w fun d v H1 t1 r1 w1 => wp_B r1 w1⟩
/-! a value's truth, of any kind -/
def truD : D → R Bool
  | .none => .ok false
  | .bool b => .ok b
  | .int i => .ok (i != 0)
  | .str z => R.when (szOk z.length) (.ok (z.length != 0))
  | .list ds => .ok (!ds.isEmpty)
  | .tuple ds => .ok (!ds.isEmpty)
  | .dict _ => .bad
def mNot (m : DS → R Bool) : DS → R Bool := fun δ => (m δ).map (!·)
def mAnd (m n : DS → R Bool) : DS → R Bool := fun δ => (m δ).bind fun b => if b = true then n δ else .ok false
def mOr (m n : DS → R Bool) : DS → R Bool := fun δ => (m δ).bind fun b => if b = true then .ok true else n δ
theorem dt_not {a : Expr} {pos : Pos} {m : DS → R Bool} (h : DT X Y a m) : DT X Y (.UnaryOp .Not a pos) (mNot m) := by
  obtain ⟨t, p, q⟩ := h
  refine ⟨_, pt_not p, fun σ δ H A c s Q w => q σ δ H A c s _ ?_⟩
  unfold mNot at w
  cases e : m δ with
  | bad => rw [e] at w; exact w
  | ex n => rw [e] at w; exact w
  | ok b => rw [e] at w; exact w
theorem dw_one {op : BoolOp} {a : Expr} {pos : Pos} {m : DS → R Bool} (h : DT X Y a m) : DW X Y (.BoolOp op [a] pos) m := by
  obtain ⟨t, p, q⟩ := h
  cases op with
  | And => exact ⟨_, pw_and1 p, q⟩
  | Or => exact ⟨_, pw_or1 p, q⟩
theorem dt_bool_seq {t : TT} {m n : DS → R Bool} (h : ∀ (σ : St) (δ : DS) (H : Hp) (A : Addr → Prop), Cov A H → SR X.K A σ δ H → ∀ Q : Bool → Hp → Prop, WpT (Y.at σ) H (m δ) Q → t σ H Q) {σ : St} {δ : DS} {H : Hp} {A : Addr → Prop} (c : Cov A H) (s : SR X.K A σ δ H)
    {f : Bool → R Bool} {P Q : Bool → Hp → Prop} (w : WpT (Y.at σ) H ((m δ).bind f) Q) (k : ∀ b H1, Same H H1 → WpT (Y.at σ) H1 (f b) Q → P b H1) : t σ H P := by
  refine h σ δ H A c s P ?_
  cases e : m δ with
  | bad => rw [e] at w; exact w
  | ex n => rw [e] at w; exact w
  | ok d =>
    rw [e] at w
    exact fun H1 t => k d H1 t (WpT.mono w t)
theorem dw_and {a b : Expr} {rest : List Expr} {pos : Pos} {m n : DS → R Bool} (h : DT X Y a m) (h' : DW X Y (.BoolOp .And (b :: rest) pos) n) : DW X Y (.BoolOp .And (a :: b :: rest) pos) (mAnd m n) := by
  obtain ⟨t, p, q⟩ := h
  obtain ⟨u, p', q'⟩ := h'
  refine ⟨_, pw_and p p', fun σ δ H A c s Q w => dt_bool_seq (Y := Y) (n := n) q c s w fun k H1 t1 w1 => ?_⟩
  cases k with
  | true => exact q' σ δ H1 A (c.mono t1) (s.mono t1) Q w1
  | false => exact WpT.here w1
theorem dw_or {a b : Expr} {rest : List Expr} {pos : Pos} {m n : DS → R Bool} (h : DT X Y a m) (h' : DW X Y (.BoolOp .Or (b :: rest) pos) n) : DW X Y (.BoolOp .Or (a :: b :: rest) pos) (mOr m n) := by
  obtain ⟨t, p, q⟩ := h
  obtain ⟨u, p', q'⟩ := h'
  refine ⟨_, pw_or p p', fun σ δ H A c s Q w => dt_bool_seq (Y := Y) (n := n) q c s w fun k H1 t1 w1 => ?_⟩
  cases k with
  | false => exact q' σ δ H1 A (c.mono t1) (s.mono t1) Q w1
  | true => exact WpT.here w1
theorem dt_w {e : Expr} {m : DS → R Bool} (h : DW X Y e m) : DT X Y e m := by
  obtain ⟨t, p, q⟩ := h
  exact ⟨t, p.pt, q⟩
/-! and, or, not as values (of bools) -/
def mBV (m : DS → R Bool) : DS → R D := fun δ => (m δ).map .bool
def mAndE (ma mb : DS → R D) : DS → R D := fun δ => (ma δ).bind fun d => match d with
  | .bool true => mb δ
  | .bool false => .ok (.bool false)
  | _ => .bad
def mOrE (ma mb : DS → R D) : DS → R D := fun δ => (ma δ).bind fun d => match d with
  | .bool false => mb δ
  | .bool true => .ok (.bool true)
  | _ => .bad
def mNotE (ma : DS → R D) : DS → R D := fun δ => (ma δ).bind fun d => match d with
  | .bool b => .ok (.bool (!b))
  | _ => .bad
theorem de_one {op : BoolOp} {a : Expr} {pos : Pos} {m : DS → R D} (h : DE X Y a m) : DE X Y (.BoolOp op [a] pos) m := by
  obtain ⟨t, p, q⟩ := h
  exact ⟨t, pe_one p, q⟩
theorem de_and {a b : Expr} {rest : List Expr} {pos : Pos} {ma mb : DS → R D} (h : DE X Y a ma) (h' : DE X Y (.BoolOp .And (b :: rest) pos) mb) : DE X Y (.BoolOp .And (a :: b :: rest) pos) (mAndE ma mb) := by
  obtain ⟨t, p, q⟩ := h
  obtain ⟨u, p', q'⟩ := h'
  refine ⟨_, pe_and p p', fun σ δ H A c s Q w => de_seq (Y := Y) q c s w fun d v H1 t1 r1 w1 => ?_⟩
  cases r1 with
  | bl k =>
    cases k with
    | true => exact ⟨true, rfl, q' σ δ H1 A (c.mono t1) (s.mono t1) Q w1⟩
    | false => exact ⟨false, rfl, w1.here (.bl false)⟩
  | _ => exact w1.elim
theorem de_or {a b : Expr} {rest : List Expr} {pos : Pos} {ma mb : DS → R D} (h : DE X Y a ma) (h' : DE X Y (.BoolOp .Or (b :: rest) pos) mb) : DE X Y (.BoolOp .Or (a :: b :: rest) pos) (mOrE ma mb) := by
  obtain ⟨t, p, q⟩ := h
  obtain ⟨u, p', q'⟩ := h'
  refine ⟨_, pe_or p p', fun σ δ H A c s Q w => de_seq (Y := Y) q c s w fun d v H1 t1 r1 w1 => ?_⟩
  cases r1 with
  | bl k =>
    cases k with
    | false => exact ⟨false, rfl, q' σ δ H1 A (c.mono t1) (s.mono t1) Q w1⟩
    | true => exact ⟨true, rfl, w1.here (.bl true)⟩
  | _ => exact w1.elim
theorem de_not {a : Expr} {pos : Pos} {m : DS → R D} (h : DE X Y a m) : DE X Y (.UnaryOp .Not a pos) (mNotE m) := by
  obtain ⟨t, p, q⟩ := h
  refine ⟨_, pe_not p, fun σ δ H A c s Q w => de_seq (Y := Y) q c s w fun d v H1 t1 r1 w1 => ?_⟩
  cases r1 with
  | bl k => exact ⟨k, rfl, w1.here (.bl _)⟩
  | _ => exact w1.elim
def mIfE (mc : DS → R Bool) (ma mb : DS → R D) : DS → R D := fun δ => (mc δ).bind fun b => if b = true then ma δ else mb δ
theorem de_ifExp {cnd a b : Expr} {pos : Pos} {mc : DS → R Bool} {ma mb : DS → R D} (hc : DT X Y cnd mc) (ha : DE X Y a ma) (hb : DE X Y b mb) : DE X Y (.IfExp cnd a b pos) (mIfE mc ma mb) := by
  obtain ⟨tc, pc, qc⟩ := hc
  obtain ⟨ta, pa, qa⟩ := ha
  obtain ⟨tb, pb, qb⟩ := hb
  refine ⟨_, pe_ifExp pc pa pb, fun σ δ H A c s Q w => qc σ δ H A c s _ ?_⟩
  unfold mIfE at w
  cases e : mc δ with
  | bad => rw [e] at w; exact w
  | ex n => rw [e] at w; exact w
  | ok b =>
    rw [e] at w
    refine fun H1 t1 => ?_
    cases b with
    | true => exact qa σ δ H1 A (c.mono t1) (s.mono t1) Q (WpE.mono w t1)
    | false => exact qb σ δ H1 A (c.mono t1) (s.mono t1) Q (WpE.mono w t1)
def mNeg (ma : DS → R D) : DS → R D := fun δ => (ma δ).bind fun d => match d with
  | .int i => .ok (.int (-i))
  | _ => .bad
theorem de_neg {a : Expr} {pos : Pos} {m : DS → R D} (h : DE X Y a m) : DE X Y (.UnaryOp .USub a pos) (mNeg m) := by
  obtain ⟨t, p, q⟩ := h
  refine ⟨_, pe_un un_neg p, fun σ δ H A c s Q w => de_seq (Y := Y) q c s w fun d v H1 t1 r1 w1 => ?_⟩
  cases r1 with
  | int k => exact ⟨k, rfl, w1.here (.int _)⟩
  | _ => exact w1.elim
/-! ## slices -/
def DO (X : Cx) (Y : Wy) (e : Option Expr) (m : DS → R (Option Int)) : Prop :=
  ∃ t, PO X e t ∧ ∀ (σ : St) (δ : DS) (H : Hp) (A : Addr → Prop), Cov A H → SR X.K A σ δ H → ∀ Q : Option Int → Hp → Prop, (match m δ with
    | .ok o => ∀ H', Same H H' → Q o H'
    | _ => False) → t σ H Q
def mPart (m : DS → R D) : DS → R (Option Int) := fun δ => match m δ with
  | .ok (.int i) => .ok (some i)
  | _ => .bad
def mNoPart : DS → R (Option Int) := fun _ => .ok none
theorem do_none : DO X Y none mNoPart := ⟨_, po_none, fun σ δ H A c s Q w => w H (Same.refl H)⟩
theorem do_some {e : Expr} {m : DS → R D} (h : DE X Y e m) : DO X Y (some e) (mPart m) := by
  obtain ⟨t, p, q⟩ := h
  refine ⟨_, po_some p, fun σ δ H A c s Q w => q σ δ H A c s _ ?_⟩
  unfold mPart at w
  cases e : m δ with
  | bad => rw [e] at w; exact w
  | ex n => rw [e] at w; exact w.elim
  | ok d =>
    rw [e] at w
    cases d with
    | int i =>
      refine fun v H1 t1 r1 => ?_
      cases r1 with
      | int i => exact ⟨i, rfl, w H1 t1⟩
    | _ => exact w.elim
def cutD {α : Type} (xs : List α) (lo hi : Option Int) : List α := (xs.drop (HT.sIx xs.length 0 lo)).take (HT.sIx xs.length xs.length hi - HT.sIx xs.length 0 lo)
def R.opt {α : Type} : R α → Option α
  | .ok a => some a
  | _ => none
def gSlT : D → Option Int → Option Int → R D := fun d l h => match d with
  | .tuple ds => .ok (.tuple (cutD ds l h))
  | .str z => R.when (szOk z.length) (.ok (.str (cutS z l h)))
  | _ => .bad
def gSlL : D → Option Int → Option Int → R (List D) := fun d l h => match d with
  | .list ds => .ok (cutD ds l h)
  | _ => .bad
def mSlL (m : DS → R D) (ml mh : DS → R (Option Int)) : DS → R (List D) := fun δ => (m δ).bind fun d => match (ml δ).opt, (mh δ).opt with
  | some l, some h => gSlL d l h
  | _, _ => .bad
def mSlT (m : DS → R D) (ml mh : DS → R (Option Int)) : DS → R D := fun δ => (m δ).bind fun d => match (ml δ).opt, (mh δ).opt with
  | some l, some h => gSlT d l h
  | _, _ => .bad
theorem do_use {σ : St} {δ : DS} {H : Hp} {A : Addr → Prop} {m : DS → R (Option Int)} {t : TO} (q : ∀ (σ : St) (δ : DS) (H : Hp) (A : Addr → Prop), Cov A H → SR X.K A σ δ H → ∀ Q : Option Int → Hp → Prop, (match m δ with
    | .ok o => ∀ H', Same H H' → Q o H'
    | _ => False) → t σ H Q) (c : Cov A H) (s : SR X.K A σ δ H) {o : Option Int} (e : (m δ).opt = some o) {Q : Option Int → Hp → Prop} (k : ∀ H', Same H H' → Q o H') : t σ H Q := by
  refine q σ δ H A c s Q ?_
  cases e1 : m δ with
  | bad => rw [e1] at e; cases e
  | ex n => rw [e1] at e; cases e
  | ok a => rw [e1] at e; cases e; exact k
theorem dn_slice {e : Expr} {lo hi : Option Expr} {m : DS → R D} {ml mh : DS → R (Option Int)} {p2 pos : Pos} (he : DE X Y e m) (hl : DO X Y lo ml) (hh : DO X Y hi mh) : DN X Y (.Subscript e (.Slice lo hi none p2) pos) (mSlL m ml mh) := by
  obtain ⟨t, p, q⟩ := he
  obtain ⟨tl, pl, ql⟩ := hl
  obtain ⟨th, ph, qh⟩ := hh
  refine ⟨_, pe_slice sl_list p pl ph, fun σ δ H A c s Q w => q σ δ H A c s _ ?_⟩
  unfold mSlL at w
  cases e1 : m δ with
  | bad => rw [e1] at w; exact w
  | ex n => rw [e1] at w; exact w
  | ok d =>
    rw [e1] at w
    replace w : WpL X.K (Y.at σ) A H (match (ml δ).opt, (mh δ).opt with
      | some l, some h => gSlL d l h
      | _, _ => .bad) Q := w
    cases e2 : (ml δ).opt with
    | none => rw [e2] at w; exact w.elim
    | some l =>
      cases e3 : (mh δ).opt with
      | none => rw [e2, e3] at w; exact w.elim
      | some h =>
        rw [e2, e3] at w
        refine fun v H1 t1 r1 => do_use ql (c.mono t1) (s.mono t1) e2 fun H2 t2 => do_use qh ((c.mono t1).mono t2) ((s.mono t1).mono t2) e3 fun H3 t3 => ?_
        replace w : WpL X.K (Y.at σ) A H (gSlL d l h) Q := w
        cases d with
        | list ds =>
          obtain ⟨a, us, rfl, h1, h2⟩ := dp_list (Dp.same (Same.mask (t2.trans t3)) r1)
          refine ⟨a, us, rfl, sqL_same mask_le h1, (WpL.mono w ((t1.trans t2).trans t3)).newly ?_⟩
          unfold cutV cutD
          rw [h2.len]
          exact (h2.drop _).take _
        | _ => exact w.elim
theorem de_slice {e : Expr} {lo hi : Option Expr} {m : DS → R D} {ml mh : DS → R (Option Int)} {p2 pos : Pos} (he : DE X Y e m) (hl : DO X Y lo ml) (hh : DO X Y hi mh) : DE X Y (.Subscript e (.Slice lo hi none p2) pos) (mSlT m ml mh) := by
  obtain ⟨t, p, q⟩ := he
  obtain ⟨tl, pl, ql⟩ := hl
  obtain ⟨th, ph, qh⟩ := hh
  refine ⟨_, pe_slice (sl_tupA.or sl_str) p pl ph, fun σ δ H A c s Q w => q σ δ H A c s _ ?_⟩
  unfold mSlT at w
  cases e1 : m δ with
  | bad => rw [e1] at w; exact w
  | ex n => rw [e1] at w; exact w
  | ok d =>
    rw [e1] at w
    replace w : WpE X.K (Y.at σ) A H (match (ml δ).opt, (mh δ).opt with
      | some l, some h => gSlT d l h
      | _, _ => .bad) Q := w
    cases e2 : (ml δ).opt with
    | none => rw [e2] at w; exact w.elim
    | some l =>
      cases e3 : (mh δ).opt with
      | none => rw [e2, e3] at w; exact w.elim
      | some h =>
        rw [e2, e3] at w
        refine fun v H1 t1 r1 => do_use ql (c.mono t1) (s.mono t1) e2 fun H2 t2 => do_use qh ((c.mono t1).mono t2) ((s.mono t1).mono t2) e3 fun H3 t3 => ?_
        replace w : WpE X.K (Y.at σ) A H (gSlT d l h) Q := w
        have w3 := WpE.mono w ((t1.trans t2).trans t3)
        have c3 := ((c.mono t1).mono t2).mono t3
        cases d with
        | tuple ds =>
          obtain ⟨a, us, rfl, h1, h2⟩ := dp_tup (Dp.same (Same.mask (t2.trans t3)) r1)
          have key : DpAll X.K (mask A H3) (cutV us l h) (cutD ds l h) := by
            unfold cutV cutD
            rw [h2.len]
            exact (h2.drop _).take _
          have w4 : WpE X.K (Y.at σ) A H3 (.ok (.tuple (cutD ds l h))) Q := w3
          refine .inl ⟨a, us, rfl, sqT_same mask_le h1, ?_⟩
          refine ⟨fun e => ?_, fun e => w4.newT c3 key⟩
          have e5 : cutD ds l h = ds := by
            unfold cutD
            rw [h2.len] at e
            rw [e.1, e.2, List.drop_zero, Nat.sub_zero, List.take_length]
          rw [e5] at w4
          exact w4.here (.tup h1 h2)
        | str z =>
          cases r1 with
          | str z =>
          obtain ⟨ez, w4⟩ := WpE.when (r := .ok (.str (cutS z l h))) w3
          exact .inr ⟨z, rfl, of_decide_eq_true ez, w4.here (.str _)⟩
        | _ => exact w.elim
end
end L2
namespace L2
open PySem PySem.Spec PyProof.Rows
/-! ## statements -/
inductive Out where
  | nx (δ : DS)
  | rt (d : D)
  /-- a new list of one's own is handed back -/
  | rl (ds : List D)
  | bk (δ : DS)
  | ct (δ : DS)
  | ex (n : Nat) (δ : DS)
/-- a part's answer, within a statement at the slots δ -/
def R.run {α : Type} (r : R α) (δ : DS) (f : α → R Out) : R Out := match r with
  | .bad => .bad
  | .ex n => .ok (.ex n δ)
  | .ok a => f a
theorem R.run_ok {α : Type} {a : α} {δ : DS} {f : α → R Out} : (R.ok a).run δ f = f a := (rfl)
theorem R.run_bad {α : Type} {δ : DS} {f : α → R Out} : (R.bad : R α).run δ f = .bad := (rfl)
theorem R.run_ex {α : Type} {n : Nat} {δ : DS} {f : α → R Out} : (R.ex n : R α).run δ f = .ok (.ex n δ) := (rfl)
/-- a fact that stays while objects are only made -/
structure Tm where
  P : Hp → Prop
  mono : ∀ {H H' : Hp}, Same H H' → P H → P H'
/-- the state between statements. A0: what the callers hold open; O: the slots that own a list of their own; T: values held by loops around; H0: the heap at the entry -/
structure SS (K : PySem.W.Frag) (A0 : Addr → Prop) (O : List Nat) (T : List Tm) (H0 : Hp) (σ : St) (δ : DS) (H : Hp) : Prop where
  ex : ∃ w : Nat → Addr,
    (∀ (i : Nat) (d : D), i ∉ O → δ[i]? = some (some d) → ∃ v, σ[i]? = some (some v) ∧ Dp K (mask (fun a => A0 a ∨ ∃ j ∈ O, (∃ d, δ[j]? = some (some d)) ∧ a = w j) H) v d) ∧
    (∀ (i : Nat) (d : D), i ∈ O → δ[i]? = some (some d) → ∃ ds vs, d = .list ds ∧ σ[i]? = some (some (.ref (w i))) ∧ H (w i) = some (.lst vs) ∧ H0 (w i) = none ∧
      DpAll K (mask (fun a => A0 a ∨ ∃ j ∈ O, (∃ d, δ[j]? = some (some d)) ∧ a = w j) H) vs ds) ∧
    (∀ i j : Nat, i ∈ O → j ∈ O → (∃ d, δ[i]? = some (some d)) → (∃ d, δ[j]? = some (some d)) → w i = w j → i = j) ∧
    (∀ p ∈ T, p.P (mask (fun a => A0 a ∨ ∃ j ∈ O, (∃ d, δ[j]? = some (some d)) ∧ a = w j) H))
  len : σ.length = δ.length
  same : Same H0 H
  cov : Cov A0 H0
def WpS (K : PySem.W.Frag) (Y : Wy) (A0 : Addr → Prop) (O : List Nat) (T : List Tm) (H0 : Hp) (r : R Out) (Dn : Ends) : Prop :=
  match r with
  | .bad => False
  | .ex _ => False
  | .ok (.nx δ) => ∀ σ H', SS K A0 O T H0 σ δ H' → Dn.nx σ H'
  | .ok (.rt d) => ∀ v H', Same H0 H' → Dp K (mask A0 H') v d → Dn.rt v H'
  | .ok (.rl ds) => ∀ p vs H', Same H0 H' → H0 p = none → H' p = some (.lst vs) → DpAll K (mask (fun a => A0 a ∨ a = p) H') vs ds → Dn.rt (.ref p) H'
  | .ok (.bk δ) => ∀ σ H', SS K A0 O T H0 σ δ H' → Dn.bk σ H'
  | .ok (.ct δ) => ∀ σ H', SS K A0 O T H0 σ δ H' → Dn.ct σ H'
  | .ok (.ex n δ) => ∀ σ H', SS K A0 O T H0 σ δ H' → Y.E σ (Y.cv n) none H'
abbrev TSem (X : Cx) (Y : Wy) (O : List Nat) (t : TS) (m : DS → R Out) : Prop := ∀ (A0 : Addr → Prop) (T : List Tm) (H0 : Hp) (σ : St) (δ : DS) (H : Hp) (Dn : Ends), SS X.K A0 O T H0 σ δ H → WpS X.K Y A0 O T H0 (m δ) Dn → t Dn σ H
def DSt (X : Cx) (Y : Wy) (O : List Nat) (st : Stmt) (m : DS → R Out) : Prop := ∃ t, PS X st t ∧ TSem X Y O t m
def DSs (X : Cx) (Y : Wy) (O : List Nat) (st : List Stmt) (m : DS → R Out) : Prop := ∃ t, PSs X st t ∧ TSem X Y O t m
/-- the owned slots hidden -/
def hideF (O : List Nat) : Nat → DS → DS
  | _, [] => []
  | k, x :: xs => (if O.elem k = true then none else x) :: hideF O (k + 1) xs
def hideD (O : List Nat) (δ : DS) : DS := hideF O 0 δ
theorem hideF_get {O : List Nat} : ∀ {δ : DS} {k i : Nat} {d : D}, (hideF O k δ)[i]? = some (some d) → k + i ∉ O ∧ δ[i]? = some (some d)
  | [], _, _, _, h => by simp [hideF] at h
  | x :: xs, k, 0, d, h => by
    simp only [hideF, List.getElem?_cons_zero, Option.some.injEq] at h
    by_cases ho : O.elem k = true
    · rw [if_pos ho] at h; cases h
    · rw [if_neg ho] at h
      refine ⟨fun q => ho (List.elem_eq_true_of_mem q), ?_⟩
      rw [h]; rfl
  | x :: xs, k, i + 1, d, h => by
    simp only [hideF, List.getElem?_cons_succ] at h
    obtain ⟨a, b⟩ := hideF_get h
    exact ⟨by rw [show k + (i + 1) = k + 1 + i by omega]; exact a, b⟩
theorem hideF_len {O : List Nat} : ∀ {δ : DS} {k : Nat}, (hideF O k δ).length = δ.length
  | [], _ => rfl
  | x :: xs, k => by rw [hideF, List.length_cons, List.length_cons, hideF_len]
theorem hideD_get {O : List Nat} {δ : DS} {i : Nat} {d : D} (h : (hideD O δ)[i]? = some (some d)) : i ∉ O ∧ δ[i]? = some (some d) := by
  obtain ⟨a, b⟩ := hideF_get h
  exact ⟨by rw [Nat.zero_add] at a; exact a, b⟩
section
variable {K : PySem.W.Frag} {A0 : Addr → Prop} {O : List Nat} {T : List Tm} {H0 H H' : Hp} {σ : St} {δ : DS}
/-- reading: every slot is known, under what the callers hold -/
theorem SS.read (s : SS K A0 O T H0 σ δ H) : SR K A0 σ δ H := ⟨fun i d e => by
  obtain ⟨w, h1, h2, h3, h4⟩ := s.ex
  by_cases ho : i ∈ O
  · obtain ⟨ds, vs, rfl, e1, e2, e3, e4⟩ := h2 i d ho e
    have ha : ¬ A0 (w i) := fun q => s.cov _ q e3
    exact ⟨_, e1, .lst (SqL.of (mask_some.mpr ⟨ha, e2⟩)) (DpAll.same (mask_sub fun a q => .inl q) e4)⟩
  · obtain ⟨v, e1, e2⟩ := h1 i d ho e
    exact ⟨v, e1, Dp.same (mask_sub fun a q => .inl q) e2⟩, by rw [s.len]; exact Nat.le_refl _⟩
theorem SS.covH (s : SS K A0 O T H0 σ δ H) : Cov A0 H := s.cov.mono s.same
/-- what is held open here -/
def openA (A0 : Addr → Prop) (O : List Nat) (δ : DS) (w : Nat → Addr) : Addr → Prop := fun a => A0 a ∨ ∃ j ∈ O, (∃ d, δ[j]? = some (some d)) ∧ a = w j
/-- sharing: what is evaluated without the owned slots may be kept -/
theorem SS.share (s : SS K A0 O T H0 σ δ H) : ∃ w : Nat → Addr, Cov (openA A0 O δ w) H ∧ SR K (openA A0 O δ w) σ (hideD O δ) H ∧
    (∀ (i : Nat) (v : V) (d : D) (H' : Hp), i ∉ O → i < σ.length → Same H H' → Dp K (mask (openA A0 O δ w) H') v d → SS K A0 O T H0 (σ.set i (some v)) (δ.set i (some d)) H') ∧
    (∀ (H' : Hp), Same H H' → SS K A0 O T H0 σ δ H') ∧
    (∀ (p : Tm) (H' : Hp), Same H H' → p.P (mask (openA A0 O δ w) H') → SS K A0 O (p :: T) H0 σ δ H') ∧
    (∀ a, openA A0 O δ w a → A0 a ∨ ∃ xs, H a = some (.lst xs)) ∧
    (∀ (i : Nat) (p : Addr) (vs : List V) (ds : List D) (H' : Hp), i ∈ O → i < σ.length → Same H H' → H p = none → H' p = some (.lst vs) → DpAll K (mask (fun a => openA A0 O δ w a ∨ a = p) H') vs ds → SS K A0 O T H0 (σ.set i (some (.ref p))) (δ.set i (some (.list ds))) H') ∧
    (∀ (i : Nat) (ds es : List D) (us : List V) (H' : Hp), i ∈ O → δ[i]? = some (some (.list ds)) → Same H H' → DpAll K (mask (openA A0 O δ w) H') us es → σ[i]? = some (some (.ref (w i))) ∧ (∃ vs, H' (w i) = some (.lst vs) ∧ DpAll K (mask (openA A0 O δ w) H') vs ds) ∧
      SS K A0 O T H0 σ (δ.set i (some (.list es))) (upd H' (w i) (.lst us))) := by
  obtain ⟨w, h1, h2, h3, h4⟩ := s.ex
  have cv : Cov (openA A0 O δ w) H := fun a q e => by
    rcases q with q | ⟨j, jo, ⟨d, jd⟩, rfl⟩
    · exact s.covH a q e
    · obtain ⟨ds, vs, rfl, e1, e2, e3, e4⟩ := h2 j d jo jd
      rw [e2] at e; cases e
  have keep : ∀ (H' : Hp), Same H H' → SS K A0 O T H0 σ δ H' := fun H' t =>
    ⟨⟨w, fun i d ho e => (h1 i d ho e).imp fun v q => ⟨q.1, Dp.same (Same.mask t) q.2⟩, fun i d ho e => by
      obtain ⟨ds, vs, e0, e1, e2, e3, e4⟩ := h2 i d ho e
      exact ⟨ds, vs, e0, e1, t _ _ e2, e3, DpAll.same (Same.mask t) e4⟩, h3, fun p hp => p.mono (Same.mask t) (h4 p hp)⟩, s.len, s.same.trans t, s.cov⟩
  refine ⟨w, cv, ⟨fun i d e => ?_, by rw [s.len]; unfold hideD; rw [hideF_len]; exact Nat.le_refl _⟩, fun i v d H' ho hi t r => ?_, keep, fun tm H' t r => ?_, fun a q => ?_, fun i p vs ds H' ho hi t np hp ha => ?_, fun i ds es us H' ho hd t ha => ?_⟩
  · obtain ⟨ho, e'⟩ := hideD_get e
    exact h1 i d ho e'
  · -- a shared slot is set
    have hl : i < δ.length := by rw [← s.len]; exact hi
    have same : ∀ j ∈ O, (δ.set i (some d))[j]? = δ[j]? := fun j jo => List.getElem?_set_ne (fun e => ho (by rw [e]; exact jo))
    have oe : (fun a => A0 a ∨ ∃ j ∈ O, (∃ x, (δ.set i (some d))[j]? = some (some x)) ∧ a = w j) = openA A0 O δ w := by
      funext a
      unfold openA
      refine propext ⟨fun q => q.imp id fun ⟨j, jo, jd, e⟩ => ⟨j, jo, by rw [same j jo] at jd; exact jd, e⟩, fun q => q.imp id fun ⟨j, jo, jd, e⟩ => ⟨j, jo, by rw [same j jo]; exact jd, e⟩⟩
    refine ⟨⟨w, fun k x ko e => ?_, fun k x ko e => ?_, fun k j ko jo ke je => ?_, fun p hp => ?_⟩, by rw [List.length_set, List.length_set]; exact s.len, s.same.trans t, s.cov⟩
    · rw [oe]
      by_cases hk : i = k
      · subst hk
        rw [List.getElem?_set_self hl] at e
        rw [List.getElem?_set_self hi]
        cases e
        exact ⟨v, rfl, r⟩
      · rw [List.getElem?_set_ne hk] at e ⊢
        obtain ⟨u, q1, q2⟩ := h1 k x ko e
        exact ⟨u, q1, Dp.same (Same.mask t) q2⟩
    · rw [oe]
      have hk : i ≠ k := fun e => ho (e ▸ ko)
      rw [List.getElem?_set_ne hk] at e ⊢
      obtain ⟨ds, vs, e0, e1, e2, e3, e4⟩ := h2 k x ko e
      exact ⟨ds, vs, e0, e1, t _ _ e2, e3, DpAll.same (Same.mask t) e4⟩
    · rw [same k ko] at ke
      rw [same j jo] at je
      exact h3 k j ko jo ke je
    · rw [oe]
      exact p.mono (Same.mask t) (h4 p hp)
  · refine ⟨⟨w, (keep H' t).ex.elim fun _ _ => fun i d ho e => (h1 i d ho e).imp fun v q => ⟨q.1, Dp.same (Same.mask t) q.2⟩, fun i d ho e => by
      obtain ⟨ds, vs, e0, e1, e2, e3, e4⟩ := h2 i d ho e
      exact ⟨ds, vs, e0, e1, t _ _ e2, e3, DpAll.same (Same.mask t) e4⟩, h3, fun p hp => ?_⟩, s.len, s.same.trans t, s.cov⟩
    rcases List.mem_cons.mp hp with rfl | hp
    · exact r
    · exact p.mono (Same.mask t) (h4 p hp)
  · rcases q with q | ⟨j, jo, ⟨d, jd⟩, rfl⟩
    · exact .inl q
    · obtain ⟨ds, vs, rfl, e1, e2, e3, e4⟩ := h2 j d jo jd
      exact .inr ⟨vs, e2⟩
  · -- an owned slot takes a new list
    have hl : i < δ.length := by rw [← s.len]; exact hi
    let w' : Nat → Addr := fun j => if j = i then p else w j
    have wi : w' i = p := if_pos rfl
    have wj : ∀ j, j ≠ i → w' j = w j := fun j h => if_neg h
    have same : ∀ j, j ≠ i → (δ.set i (some (.list ds)))[j]? = δ[j]? := fun j h => List.getElem?_set_ne (fun e => h e.symm)
    have sub : ∀ a, (A0 a ∨ ∃ j ∈ O, (∃ x, (δ.set i (some (.list ds)))[j]? = some (some x)) ∧ a = w' j) → openA A0 O δ w a ∨ a = p := fun a q => by
      rcases q with q | ⟨j, jo, ⟨x, jd⟩, rfl⟩
      · exact .inl (.inl q)
      · by_cases hj : j = i
        · subst hj; exact .inr wi
        · rw [same j hj] at jd
          rw [wj j hj]
          exact .inl (.inr ⟨j, jo, ⟨x, jd⟩, rfl⟩)
    have upS : Same (mask (openA A0 O δ w) H) (mask (fun a => A0 a ∨ ∃ j ∈ O, (∃ x, (δ.set i (some (.list ds)))[j]? = some (some x)) ∧ a = w' j) H') := fun b o e => by
        rw [mask_some] at e ⊢
        refine ⟨fun z => ?_, t _ _ e.2⟩
        rcases sub b z with z | rfl
        · exact e.1 z
        · rw [np] at e; cases e.2
    refine ⟨⟨w', fun k x ko e => ?_, fun k x ko e => ?_, fun k j ko jo ke je ee => ?_, fun q hq => q.mono upS (h4 q hq)⟩, by rw [List.length_set, List.length_set]; exact s.len, s.same.trans t, s.cov⟩
    · have hk : k ≠ i := fun e => ko (e ▸ ho)
      rw [same k hk] at e
      rw [List.getElem?_set_ne (fun e => hk e.symm)]
      obtain ⟨u, q1, q2⟩ := h1 k x ko e
      exact ⟨u, q1, Dp.same upS q2⟩
    · by_cases hk : k = i
      · subst hk
        rw [List.getElem?_set_self hl] at e
        rw [List.getElem?_set_self hi, wi]
        cases e
        exact ⟨ds, vs, rfl, rfl, hp, Same.free s.same np, DpAll.same (mask_sub sub) ha⟩
      · rw [same k hk] at e
        rw [List.getElem?_set_ne (fun e => hk e.symm), wj k hk]
        obtain ⟨ds, vs, e0, e1, e2, e3, e4⟩ := h2 k x ko e
        exact ⟨ds, vs, e0, e1, t _ _ e2, e3, DpAll.same upS e4⟩
    · have nop : ∀ k, k ∈ O → k ≠ i → (∃ d, δ[k]? = some (some d)) → w k ≠ p := fun k ko hk ⟨d, kd⟩ z => by
        obtain ⟨ds, vs, e0, e1, e2, e3, e4⟩ := h2 k d ko kd
        rw [z, np] at e2; cases e2
      by_cases hk : k = i
      · by_cases hj : j = i
        · rw [hk, hj]
        · rw [hk, wi, wj j hj] at ee
          rw [same j hj] at je
          exact absurd ee.symm (nop j jo hj je)
      · by_cases hj : j = i
        · rw [hj, wi, wj k hk] at ee
          rw [same k hk] at ke
          exact absurd ee (nop k ko hk ke)
        · rw [wj k hk, wj j hj] at ee
          rw [same k hk] at ke
          rw [same j hj] at je
          exact h3 k j ko jo ke je ee
  · -- an owned list is changed
    obtain ⟨ds', vs, e0, e1, e2, e3, e4⟩ := h2 i _ ho hd
    cases e0
    have hl : i < δ.length := by
      cases Nat.lt_or_ge i δ.length with
      | inl h => exact h
      | inr h => rw [List.getElem?_eq_none h] at hd; cases hd
    refine ⟨e1, ⟨vs, t _ _ e2, DpAll.same (Same.mask t) e4⟩, ?_⟩
    have some_iff : ∀ j, (∃ x, (δ.set i (some (.list es)))[j]? = some (some x)) ↔ ∃ x, δ[j]? = some (some x) := fun j => by
      by_cases hj : i = j
      · subst hj
        exact ⟨fun _ => ⟨_, hd⟩, fun _ => ⟨_, List.getElem?_set_self hl⟩⟩
      · have e5 : (δ.set i (some (.list es)))[j]? = δ[j]? := List.getElem?_set_ne hj
        exact ⟨fun ⟨x, q⟩ => ⟨x, e5.symm.trans q⟩, fun ⟨x, q⟩ => ⟨x, e5.trans q⟩⟩
    have oe : (fun a => A0 a ∨ ∃ j ∈ O, (∃ x, (δ.set i (some (.list es)))[j]? = some (some x)) ∧ a = w j) = openA A0 O δ w := by
      funext a
      unfold openA
      refine propext ⟨fun q => q.imp id fun ⟨j, jo, jd, e⟩ => ⟨j, jo, (some_iff j).mp jd, e⟩, fun q => q.imp id fun ⟨j, jo, jd, e⟩ => ⟨j, jo, (some_iff j).mpr jd, e⟩⟩
    have hw : openA A0 O δ w (w i) := .inr ⟨i, ho, ⟨_, hd⟩, rfl⟩
    have mk : ∀ {G : Hp}, Same (mask (openA A0 O δ w) G) (mask (openA A0 O δ w) (upd G (w i) (.lst us))) := fun {G} b o e => by
      rw [mask_some] at e ⊢
      refine ⟨e.1, ?_⟩
      rw [upd_ne (fun z => e.1 (by rw [z]; exact hw))]
      exact e.2
    refine ⟨⟨w, fun k x ko e => ?_, fun k x ko e => ?_, fun k j ko jo ke je => h3 k j ko jo ((some_iff k).mp ke) ((some_iff j).mp je), fun p hp => ?_⟩, by rw [List.length_set]; exact s.len, same_mut (s.same.trans t) e3, s.cov⟩
    · rw [oe]
      have hk : i ≠ k := fun e => ko (e ▸ ho)
      rw [List.getElem?_set_ne hk] at e
      obtain ⟨u, q1, q2⟩ := h1 k x ko e
      exact ⟨u, q1, Dp.same ((Same.mask t).trans mk) q2⟩
    · rw [oe]
      by_cases hk : i = k
      · subst hk
        rw [List.getElem?_set_self hl] at e
        cases e
        exact ⟨es, us, rfl, e1, upd_same, e3, DpAll.same mk ha⟩
      · rw [List.getElem?_set_ne hk] at e
        obtain ⟨ds2, vs2, f0, f1, f2, f3, f4⟩ := h2 k x ko e
        have nk : w k ≠ w i := fun z => hk (h3 k i ko ho ⟨x, e⟩ ⟨_, hd⟩ z).symm
        exact ⟨ds2, vs2, f0, f1, by rw [upd_ne nk]; exact t _ _ f2, f3, DpAll.same ((Same.mask t).trans mk) f4⟩
    · rw [oe]
      exact p.mono ((Same.mask t).trans mk) (h4 p hp)
theorem SS.keep (s : SS K A0 O T H0 σ δ H) (t : Same H H') : SS K A0 O T H0 σ δ H' := by
  obtain ⟨w, _, _, _, k, _⟩ := s.share
  exact k H' t
end
end L2
namespace L2
open PySem PySem.Spec PyProof.Rows
section
variable {X : Cx} {Y : Wy} {O : List Nat}
/-! ### rows -/
def mSeq (m n : DS → R Out) : DS → R Out := fun δ => (m δ).bind fun o => match o with
  | .nx δ' => n δ'
  | o => .ok o
def mSkip : DS → R Out := fun δ => .ok (.nx δ)
theorem dss_nil : DSs X Y O [] mSkip := ⟨_, pss_nil, fun A0 T H0 σ δ H Dn s w => w σ H s⟩
theorem tsem_seq {t u : TS} {m n : DS → R Out} (h : TSem X Y O t m) (h' : TSem X Y O u n) : TSem X Y O (tSeq t u) (mSeq m n) := fun A0 T H0 σ δ H Dn s w => by
  refine h A0 T H0 σ δ H _ s ?_
  unfold mSeq at w
  cases e : m δ with
  | bad => rw [e] at w; exact w
  | ex k => rw [e] at w; exact w
  | ok o =>
    rw [e] at w
    cases o with
    | nx δ' => exact fun σ' H' s' => h' A0 T H0 σ' δ' H' Dn s' w
    | rt d => exact w
    | rl d => exact w
    | bk δ' => exact w
    | ct δ' => exact w
    | ex n δ' => exact w
theorem dss_cons {st : Stmt} {rest : List Stmt} {m n : DS → R Out} (h : DSt X Y O st m) (h' : DSs X Y O rest n) : DSs X Y O (st :: rest) (mSeq m n) := by
  obtain ⟨t, p, q⟩ := h
  obtain ⟨u, p', q'⟩ := h'
  exact ⟨_, pss_cons p p', tsem_seq q q'⟩
theorem dss_one {st : Stmt} {m : DS → R Out} (h : DSt X Y O st m) : DSs X Y O [st] m := by
  obtain ⟨t, p, q⟩ := h
  exact ⟨_, pss_one p, q⟩
/-! ### name = e -/
def inB (i : Nat) (δ : DS) : Bool := decide (i < δ.length)
def mSet (O : List Nat) (i : Nat) (m : DS → R D) : DS → R Out := fun δ => (m (hideD O δ)).run δ fun d => R.when (inB i δ) (.ok (.nx (δ.set i (some d))))
theorem tsem_set {te : TE} {m : DS → R D} {i : Nat} (ho : i ∉ O) (q : ∀ (σ : St) (δ : DS) (H : Hp) (A : Addr → Prop), Cov A H → SR X.K A σ δ H → ∀ Q : VK, WpE X.K (Y.at σ) A H (m δ) Q → te σ H Q) : TSem X Y O (tAsg te (gName i)) (mSet O i m) := fun A0 T H0 σ δ H Dn s w => by
  obtain ⟨w0, cv, sr, up, kp, _⟩ := s.share
  refine q σ (hideD O δ) H _ cv sr _ ?_
  unfold mSet at w
  cases e : m (hideD O δ) with
  | bad => rw [e] at w; exact w
  | ex k => rw [e] at w; exact fun H' t => w σ H' (s.keep t)
  | ok d =>
    rw [e] at w
    obtain ⟨hb, w⟩ := R.when_ok (fun r => WpS X.K Y A0 O T H0 r Dn) w id
    exact fun v H' t r => w _ H' (up i v d H' ho (by rw [s.len]; exact of_decide_eq_true hb) t r)
theorem ds_set {i : Nat} {x : Str} {e : Expr} {m : DS → R D} {pos pos' : Pos} (hN : X.N.Nodup) (hi : X.N[i]? = some x) (hx : Loc X.env.scope x) (he : DE X Y e m) (ho : i ∉ O := by decide) (hs : swapsWith e (some (.Name x pos')) pos.line X.env = pure false := by rfl) (hf : X.fn x = true ∨ X.env.scope.names.lookup x = some .local := by first | exact .inl rfl | exact .inr rfl | assumption) :
    DSt X Y O (.Assign [.Name x pos'] e pos) (mSet O i m) := by
  obtain ⟨t, p, q⟩ := he
  exact ⟨_, ps_set hN hi hx p hs hf, tsem_set ho q⟩
/-- the same, read with the owned slots: the value holds no list -/
def mSetI (i : Nat) (m : DS → R D) : DS → R Out := fun δ => (m δ).run δ fun d => R.when (inB i δ && imm d) (.ok (.nx (δ.set i (some d))))
theorem tsem_setI {te : TE} {m : DS → R D} {i : Nat} (ho : i ∉ O) (q : ∀ (σ : St) (δ : DS) (H : Hp) (A : Addr → Prop), Cov A H → SR X.K A σ δ H → ∀ Q : VK, WpE X.K (Y.at σ) A H (m δ) Q → te σ H Q) : TSem X Y O (tAsg te (gName i)) (mSetI i m) := fun A0 T H0 σ δ H Dn s w => by
  refine q σ δ H _ s.covH s.read _ ?_
  unfold mSetI at w
  cases e : m δ with
  | bad => rw [e] at w; exact w
  | ex k => rw [e] at w; exact fun H' t => w σ H' (s.keep t)
  | ok d =>
    rw [e] at w
    obtain ⟨hb, w⟩ := R.when_ok (fun r => WpS X.K Y A0 O T H0 r Dn) w id
    rw [Bool.and_eq_true] at hb
    refine fun v H' t r => w _ H' ?_
    obtain ⟨w0, cv, sr, up, kp, _, lst, _⟩ := (s.keep t).share
    exact up i v d H' ho (by rw [s.len]; exact of_decide_eq_true hb.1) (Same.refl H') (Dp.tsame (tsame_mask2 lst) hb.2 r)
theorem ds_setI {i : Nat} {x : Str} {e : Expr} {m : DS → R D} {pos pos' : Pos} (hN : X.N.Nodup) (hi : X.N[i]? = some x) (hx : Loc X.env.scope x) (he : DE X Y e m) (ho : i ∉ O := by decide) (hs : swapsWith e (some (.Name x pos')) pos.line X.env = pure false := by rfl) (hf : X.fn x = true ∨ X.env.scope.names.lookup x = some .local := by first | exact .inl rfl | exact .inr rfl | assumption) :
    DSt X Y O (.Assign [.Name x pos'] e pos) (mSetI i m) := by
  obtain ⟨t, p, q⟩ := he
  exact ⟨_, ps_set hN hi hx p hs hf, tsem_setI ho q⟩
/-- an owned slot takes a new list -/
def mOwn (O : List Nat) (i : Nat) (m : DS → R (List D)) : DS → R Out := fun δ => (m (hideD O δ)).run δ fun ds => R.when (inB i δ) (.ok (.nx (δ.set i (some (.list ds)))))
def mOwnI (i : Nat) (m : DS → R (List D)) : DS → R Out := fun δ => (m δ).run δ fun ds => R.when (inB i δ && imms ds) (.ok (.nx (δ.set i (some (.list ds)))))
theorem tsem_own {te : TE} {m : DS → R (List D)} {i : Nat} (ho : i ∈ O) (q : ∀ (σ : St) (δ : DS) (H : Hp) (A : Addr → Prop), Cov A H → SR X.K A σ δ H → ∀ Q : VK, WpL X.K (Y.at σ) A H (m δ) Q → te σ H Q) : TSem X Y O (tAsg te (gName i)) (mOwn O i m) := fun A0 T H0 σ δ H Dn s w => by
  obtain ⟨w0, cv, sr, up, kp, tm, lst, own, _⟩ := s.share
  refine q σ (hideD O δ) H _ cv sr _ ?_
  unfold mOwn at w
  cases e : m (hideD O δ) with
  | bad => rw [e] at w; exact w
  | ex k => rw [e] at w; exact fun H' t => w σ H' (s.keep t)
  | ok ds =>
    rw [e] at w
    obtain ⟨hb, w⟩ := R.when_ok (fun r => WpS X.K Y A0 O T H0 r Dn) w id
    exact fun p vs H' t np hp r => w _ H' (own i p vs ds H' ho (by rw [s.len]; exact of_decide_eq_true hb) t np hp r)
theorem tsem_ownI {te : TE} {m : DS → R (List D)} {i : Nat} (ho : i ∈ O) (q : ∀ (σ : St) (δ : DS) (H : Hp) (A : Addr → Prop), Cov A H → SR X.K A σ δ H → ∀ Q : VK, WpL X.K (Y.at σ) A H (m δ) Q → te σ H Q) : TSem X Y O (tAsg te (gName i)) (mOwnI i m) := fun A0 T H0 σ δ H Dn s w => by
  refine q σ δ H _ s.covH s.read _ ?_
  unfold mOwnI at w
  cases e : m δ with
  | bad => rw [e] at w; exact w
  | ex k => rw [e] at w; exact fun H' t => w σ H' (s.keep t)
  | ok ds =>
    rw [e] at w
    obtain ⟨hb, w⟩ := R.when_ok (fun r => WpS X.K Y A0 O T H0 r Dn) w id
    rw [Bool.and_eq_true] at hb
    refine fun p vs H' t np hp r => w _ H' ?_
    obtain ⟨w0, cv, sr, up, kp, tm, lst, own, _⟩ := s.share
    refine own i p vs ds H' ho (by rw [s.len]; exact of_decide_eq_true hb.1) t np hp (DpAll.tsame (tsame_mask2 fun a q => ?_) hb.2 r)
    rcases q with q | rfl
    · rcases lst a q with q | ⟨xs, q⟩
      · exact .inl (.inl q)
      · exact .inr ⟨xs, t _ _ q⟩
    · exact .inl (.inr rfl)
theorem ds_own {i : Nat} {x : Str} {e : Expr} {m : DS → R (List D)} {pos pos' : Pos} (hN : X.N.Nodup) (hi : X.N[i]? = some x) (hx : Loc X.env.scope x) (he : DN X Y e m) (ho : i ∈ O := by decide) (hs : swapsWith e (some (.Name x pos')) pos.line X.env = pure false := by rfl) (hf : X.fn x = true ∨ X.env.scope.names.lookup x = some .local := by first | exact .inl rfl | exact .inr rfl | assumption) :
    DSt X Y O (.Assign [.Name x pos'] e pos) (mOwn O i m) := by
  obtain ⟨t, p, q⟩ := he
  exact ⟨_, ps_set hN hi hx p hs hf, tsem_own ho q⟩
theorem ds_ownI {i : Nat} {x : Str} {e : Expr} {m : DS → R (List D)} {pos pos' : Pos} (hN : X.N.Nodup) (hi : X.N[i]? = some x) (hx : Loc X.env.scope x) (he : DN X Y e m) (ho : i ∈ O := by decide) (hs : swapsWith e (some (.Name x pos')) pos.line X.env = pure false := by rfl) (hf : X.fn x = true ∨ X.env.scope.names.lookup x = some .local := by first | exact .inl rfl | exact .inr rfl | assumption) :
    DSt X Y O (.Assign [.Name x pos'] e pos) (mOwnI i m) := by
  obtain ⟨t, p, q⟩ := he
  exact ⟨_, ps_set hN hi hx p hs hf, tsem_ownI ho q⟩
def ownedL (i : Nat) (δ : DS) : R (List D) := match δ[i]? with
  | some (some (.list ds)) => .ok ds
  | _ => .bad
theorem ownedL_ok {i : Nat} {δ : DS} {ds : List D} (h : ownedL i δ = .ok ds) : δ[i]? = some (some (.list ds)) := by
  unfold ownedL at h
  split at h
  · rename_i ds' e; cases h; exact e
  · cases h
/-! ### return, an expression alone, pass, break, continue -/
def mRet (m : DS → R D) : DS → R Out := fun δ => (m δ).run δ fun d => .ok (.rt d)
theorem ds_ret {e : Expr} {m : DS → R D} {pos : Pos} (he : DE X Y e m) : DSt X Y O (.Return (some e) pos) (mRet m) := by
  obtain ⟨t, p, q⟩ := he
  refine ⟨_, ps_ret p, fun A0 T H0 σ δ H Dn s w => q σ δ H A0 s.covH s.read _ ?_⟩
  unfold mRet at w
  cases e : m δ with
  | bad => rw [e] at w; exact w
  | ex k => rw [e] at w; exact fun H' t => w σ H' (s.keep t)
  | ok d => rw [e] at w; exact fun v H' t r => w v H' (s.same.trans t) r
/-- return of a new list: an owned slot, or an expression that makes one -/
def mRetO (i : Nat) : DS → R Out := fun δ => (ownedL i δ).map .rl
def mRetL (m : DS → R (List D)) : DS → R Out := fun δ => (m δ).run δ fun d => .ok (.rl d)
theorem ds_retL {e : Expr} {m : DS → R (List D)} {pos : Pos} (he : DN X Y e m) : DSt X Y O (.Return (some e) pos) (mRetL m) := by
  obtain ⟨t, p, q⟩ := he
  refine ⟨_, ps_ret p, fun A0 T H0 σ δ H Dn s w => q σ δ H A0 s.covH s.read _ ?_⟩
  unfold mRetL at w
  cases e : m δ with
  | bad => rw [e] at w; exact w
  | ex k => rw [e] at w; exact fun H' t => w σ H' (s.keep t)
  | ok d => rw [e] at w; exact fun p vs H' t np hp r => w p vs H' (s.same.trans t) (Same.free s.same np) hp r
theorem ds_retO {i : Nat} {x : Str} {pos pos' : Pos} (hi : X.N[i]? = some x) (hv : Vis X.env.scope x) (ho : i ∈ O := by decide) (hd : (x == ("__debug__" : Str)) = false := by decide) (hcd : (x == ("__classdict__" : Str)) = false := by decide) : DSt X Y O (.Return (some (.Name x pos)) pos') (mRetO i) := by
  refine ⟨_, ps_ret (pe_var hi hv hd hcd), fun A0 T H0 σ δ H Dn s w => ?_⟩
  unfold mRetO at w
  cases e0 : ownedL i δ with
  | bad => rw [e0] at w; exact w.elim
  | ex k => unfold ownedL at e0; split at e0 <;> cases e0
  | ok ds =>
    rw [e0] at w
    have ei := ownedL_ok e0
    obtain ⟨w0, h1, h2, h3, h4⟩ := s.ex
    obtain ⟨ds', vs, e1, e2, e3, e4, e5⟩ := h2 i _ ho ei
    cases e1
    exact ⟨_, e2, w _ vs H s.same e4 e3 (DpAll.same (mask_sub fun a q => by
      rcases q with q | rfl
      · exact .inl q
      · exact .inr ⟨i, ho, ⟨_, ei⟩, rfl⟩) e5)⟩
def mDrop (m : DS → R D) : DS → R Out := fun δ => (m δ).run δ fun _ => .ok (.nx δ)
theorem ds_expr {e : Expr} {m : DS → R D} {pos : Pos} (he : DE X Y e m) (hs : swapsWith e none pos.line X.env = pure false := by rfl) : DSt X Y O (.Expr e pos) (mDrop m) := by
  obtain ⟨t, p, q⟩ := he
  refine ⟨_, ps_expr p hs, fun A0 T H0 σ δ H Dn s w => q σ δ H A0 s.covH s.read _ ?_⟩
  unfold mDrop at w
  cases e : m δ with
  | bad => rw [e] at w; exact w
  | ex k => rw [e] at w; exact fun H' t => w σ H' (s.keep t)
  | ok d => rw [e] at w; exact fun v H' t r => w σ H' (s.keep t)
/-! ### if -/
def mIf (mc : DS → R Bool) (m n : DS → R Out) : DS → R Out := fun δ => (mc δ).run δ fun b => if b = true then m δ else n δ
theorem ds_if {c : Expr} {a b : List Stmt} {mc : DS → R Bool} {m n : DS → R Out} {pos : Pos} (hc : DT X Y c mc) (ha : DSs X Y O a m) (hb : DSs X Y O b n) : DSt X Y O (.If c a b pos) (mIf mc m n) := by
  obtain ⟨tc, pc, qc⟩ := hc
  obtain ⟨ta, pa, qa⟩ := ha
  obtain ⟨tb, pb, qb⟩ := hb
  refine ⟨_, ps_if pc pa pb, fun A0 T H0 σ δ H Dn s w => qc σ δ H A0 s.covH s.read _ ?_⟩
  unfold mIf at w
  cases e : mc δ with
  | bad => rw [e] at w; exact w
  | ex k => rw [e] at w; exact fun H' t => w σ H' (s.keep t)
  | ok k =>
    rw [e] at w
    refine fun H' t => ?_
    cases k with
    | true => exact qa A0 T H0 σ δ H' Dn (s.keep t) w
    | false => exact qb A0 T H0 σ δ H' Dn (s.keep t) w
/-! ### x.append(e), x an owned slot -/
def ltOk (n : Nat) : Bool := decide (n < sizeLine)
def mApp (O : List Nat) (i : Nat) (m : DS → R D) : DS → R Out := fun δ => (ownedL i δ).bind fun ds => (m (hideD O δ)).run δ fun d => R.when (ltOk ds.length) (.ok (.nx (δ.set i (some (.list (ds ++ [d]))))))
def mAppI (i : Nat) (m : DS → R D) : DS → R Out := fun δ => (ownedL i δ).bind fun ds => (m δ).run δ fun d => R.when (ltOk ds.length && imm d) (.ok (.nx (δ.set i (some (.list (ds ++ [d]))))))
theorem ds_app {i : Nat} {x : Str} {e : Expr} {m : DS → R D} {px apos cpos pos : Pos} (hi : X.N[i]? = some x) (hv : Vis X.env.scope x) (he : DE X Y e m) (ho : i ∈ O := by decide) (hd : (x == ("__debug__" : Str)) = false := by decide) (hcd : (x == ("__classdict__" : Str)) = false := by decide)
    (hbase : attributeBase (.Name x px) "append" X.env (eval (.Name x px) X.env) = eval (.Name x px) X.env := by rfl)
    (hfew : ((backTo cpos (starEach [e] X.env)).all (fun x => !x.1) && (backToKw cpos (keywordEach [] X.env)).all (fun x => x.1.isSome)
      && decide (([e] : List Expr).length + ([] : List Keyword).length + (if ([] : List Keyword).isEmpty then 0 else 1) < 30)) = true := by rfl)
    (hline : (apos.endLine == cpos.line) = true := by rfl) (hs : starEach [e] X.env = (false, eval e X.env) :: starEach [] X.env := by rfl) (hsw : swapsWith (.Call (.Attribute (.Name x px) "append" apos) [e] [] cpos) none pos.line X.env = pure false := by rfl) :
    DSt X Y O (.Expr (.Call (.Attribute (.Name x px) "append" apos) [e] [] cpos) pos) (mApp O i m) := by
  obtain ⟨t, p, q⟩ := he
  refine ⟨_, ps_expr (pe_bm PySem.F.plainAttrs_list PySem.F.slot_list_append PySem.F.type_list_append mt_append (pe_var hi hv hd hcd) (pa_cons p pa_nil hs) hbase hfew hline hs) hsw, fun A0 T H0 σ δ H Dn s w => ?_⟩
  unfold mApp at w
  cases e0 : ownedL i δ with
  | bad => rw [e0] at w; exact w.elim
  | ex k => unfold ownedL at e0; split at e0 <;> cases e0
  | ok ds =>
    rw [e0] at w
    have ei := ownedL_ok e0
    obtain ⟨w0, cv, sr, up, kp, tm, lst, own, mt⟩ := s.share
    obtain ⟨e1, ⟨vs0, e2, e3⟩, _⟩ := mt i ds [] [] H ho ei (Same.refl H) .nil
    refine ⟨_, e1, .inl ⟨rfl, vs0, .inl (.inl e2)⟩, ?_⟩
    refine q σ (hideD O δ) H _ cv sr _ ?_
    replace w : WpS X.K Y A0 O T H0 ((m (hideD O δ)).run δ fun d => R.when (ltOk ds.length) (.ok (.nx (δ.set i (some (.list (ds ++ [d]))))))) Dn := w
    cases em : m (hideD O δ) with
    | bad => rw [em] at w; exact w
    | ex k => rw [em] at w; exact fun H' t => w σ H' (s.keep t)
    | ok d =>
      rw [em] at w
      obtain ⟨hb, w⟩ := R.when_ok (fun r => WpS X.K Y A0 O T H0 r Dn) w id
      refine fun v H1 t1 r1 => ?_
      obtain ⟨_, ⟨vs, f2, f3⟩, _⟩ := mt i ds [] [] H1 ho ei t1 .nil
      obtain ⟨_, _, fin⟩ := mt i ds (ds ++ [d]) (vs ++ [v]) H1 ho ei t1 (f3.app (.cons r1 .nil))
      exact ⟨_, vs, v, rfl, rfl, f2, by rw [f3.len]; exact of_decide_eq_true hb, w _ _ fin⟩
theorem ds_appI {i : Nat} {x : Str} {e : Expr} {m : DS → R D} {px apos cpos pos : Pos} (hi : X.N[i]? = some x) (hv : Vis X.env.scope x) (he : DE X Y e m) (ho : i ∈ O := by decide) (hd : (x == ("__debug__" : Str)) = false := by decide) (hcd : (x == ("__classdict__" : Str)) = false := by decide)
    (hbase : attributeBase (.Name x px) "append" X.env (eval (.Name x px) X.env) = eval (.Name x px) X.env := by rfl)
    (hfew : ((backTo cpos (starEach [e] X.env)).all (fun x => !x.1) && (backToKw cpos (keywordEach [] X.env)).all (fun x => x.1.isSome)
      && decide (([e] : List Expr).length + ([] : List Keyword).length + (if ([] : List Keyword).isEmpty then 0 else 1) < 30)) = true := by rfl)
    (hline : (apos.endLine == cpos.line) = true := by rfl) (hs : starEach [e] X.env = (false, eval e X.env) :: starEach [] X.env := by rfl) (hsw : swapsWith (.Call (.Attribute (.Name x px) "append" apos) [e] [] cpos) none pos.line X.env = pure false := by rfl) :
    DSt X Y O (.Expr (.Call (.Attribute (.Name x px) "append" apos) [e] [] cpos) pos) (mAppI i m) := by
  obtain ⟨t, p, q⟩ := he
  refine ⟨_, ps_expr (pe_bm PySem.F.plainAttrs_list PySem.F.slot_list_append PySem.F.type_list_append mt_append (pe_var hi hv hd hcd) (pa_cons p pa_nil hs) hbase hfew hline hs) hsw, fun A0 T H0 σ δ H Dn s w => ?_⟩
  unfold mAppI at w
  cases e0 : ownedL i δ with
  | bad => rw [e0] at w; exact w.elim
  | ex k => unfold ownedL at e0; split at e0 <;> cases e0
  | ok ds =>
    rw [e0] at w
    have ei := ownedL_ok e0
    obtain ⟨w0, cv, sr, up, kp, tm, lst, own, mt⟩ := s.share
    obtain ⟨e1, ⟨vs0, e2, e3⟩, _⟩ := mt i ds [] [] H ho ei (Same.refl H) .nil
    refine ⟨_, e1, .inl ⟨rfl, vs0, .inl (.inl e2)⟩, ?_⟩
    refine q σ δ H _ s.covH s.read _ ?_
    replace w : WpS X.K Y A0 O T H0 ((m δ).run δ fun d => R.when (ltOk ds.length && imm d) (.ok (.nx (δ.set i (some (.list (ds ++ [d]))))))) Dn := w
    cases em : m δ with
    | bad => rw [em] at w; exact w
    | ex k => rw [em] at w; exact fun H' t => w σ H' (s.keep t)
    | ok d =>
      rw [em] at w
      obtain ⟨hb, w⟩ := R.when_ok (fun r => WpS X.K Y A0 O T H0 r Dn) w id
      rw [Bool.and_eq_true] at hb
      refine fun v H1 t1 r1 => ?_
      have r2 : Dp X.K (mask (openA A0 O δ w0) H1) v d := Dp.tsame (tsame_mask2 fun a q => (lst a q).imp id fun ⟨xs, z⟩ => ⟨xs, t1 _ _ z⟩) hb.2 r1
      obtain ⟨_, ⟨vs, f2, f3⟩, _⟩ := mt i ds [] [] H1 ho ei t1 .nil
      obtain ⟨_, _, fin⟩ := mt i ds (ds ++ [d]) (vs ++ [v]) H1 ho ei t1 (f3.app (.cons r2 .nil))
      exact ⟨_, vs, v, rfl, rfl, f2, by rw [f3.len]; exact of_decide_eq_true hb.1, w _ _ fin⟩
/-! ### x[j] = e, x an owned slot -/
def mPut (i : Nat) (ds : List D) (δ : DS) (d j : D) : R Out := match j with
  | .int k => match ixN ds.length k with
    | some n => .ok (.nx (δ.set i (some (.list (ds.set n d)))))
    | none => .bad
  | _ => .bad
def mSetAt (O : List Nat) (i : Nat) (m mj : DS → R D) : DS → R Out := fun δ => (ownedL i δ).bind fun ds => (m (hideD O δ)).run δ fun d => (mj δ).run δ fun j => mPut i ds δ d j
def mSetAtI (i : Nat) (m mj : DS → R D) : DS → R Out := fun δ => (ownedL i δ).bind fun ds => (m δ).run δ fun d => (mj δ).run δ fun j => R.when (imm d) (mPut i ds δ d j)
theorem put_core {A0 : Addr → Prop} {T : List Tm} {H0 H H1 : Hp} {σ : St} {δ : DS} {Dn : Ends} {i : Nat} {ds : List D} {x y : V} {d j : D} {w0 : Nat → Addr} (ho : i ∈ O) (ei : δ[i]? = some (some (.list ds))) (t1 : Same H H1)
    (mt : ∀ (i : Nat) (ds es : List D) (us : List V) (H' : Hp), i ∈ O → δ[i]? = some (some (.list ds)) → Same H H' → DpAll X.K (mask (openA A0 O δ w0) H') us es → σ[i]? = some (some (.ref (w0 i))) ∧ (∃ vs, H' (w0 i) = some (.lst vs) ∧ DpAll X.K (mask (openA A0 O δ w0) H') vs ds) ∧
      SS X.K A0 O T H0 σ (δ.set i (some (.list es))) (upd H' (w0 i) (.lst us)))
    (r : Dp X.K (mask (openA A0 O δ w0) H1) x d) (rj : Dp X.K (mask A0 H1) y j) (w : WpS X.K Y A0 O T H0 (mPut i ds δ d j) Dn) : rSetL (.ref (w0 i)) y x H1 (fun H2 => Dn.nx σ H2) := by
  unfold mPut at w
  cases rj with
  | int k =>
    replace w : WpS X.K Y A0 O T H0 (match ixN ds.length k with
    | some n => .ok (.nx (δ.set i (some (.list (ds.set n d)))))
    | none => .bad) Dn := w
    cases e : ixN ds.length k with
    | none => rw [e] at w; exact w.elim
    | some n =>
      rw [e] at w
      obtain ⟨_, ⟨vs, f2, f3⟩, _⟩ := mt i ds [] [] H1 ho ei t1 .nil
      obtain ⟨_, _, fin⟩ := mt i ds (ds.set n d) (vs.set n x) H1 ho ei t1 (DpAll.set r n f3)
      exact ⟨_, vs, k, n, rfl, rfl, f2, by rw [f3.len]; exact e, w _ _ fin⟩
  | _ => exact w.elim
theorem ds_setAt {i : Nat} {x : Str} {e ej : Expr} {m mj : DS → R D} {px ps pos : Pos} (hi : X.N[i]? = some x) (hv : Vis X.env.scope x) (hps : ∀ {to ti : TE}, PE X (.Name x px) to → PE X ej ti → PG X (.Subscript (.Name x px) ej ps) (gSub to ti rSetL)) (he : DE X Y e m) (hj : DE X Y ej mj) (ho : i ∈ O := by decide) (hd : (x == ("__debug__" : Str)) = false := by decide) (hcd : (x == ("__classdict__" : Str)) = false := by decide)
    (hs : swapsWithSole [.Subscript (.Name x px) ej ps] e pos.line X.env = pure false := by rfl) (hw : swappedStores [.Subscript (.Name x px) ej ps] e X.env = pure none := by rfl) (h1 : (assignEach [.Subscript (.Name x px) ej ps] X.env).map (·.2) = [assign (.Subscript (.Name x px) ej ps) X.env] := by rfl) :
    DSt X Y O (.Assign [.Subscript (.Name x px) ej ps] e pos) (mSetAt O i m mj) := by
  obtain ⟨t, p, q⟩ := he
  obtain ⟨tj, pj, qj⟩ := hj
  refine ⟨_, ps_asg p (hps (pe_var hi hv hd hcd) pj) hs hw h1, fun A0 T H0 σ δ H Dn s w => ?_⟩
  unfold mSetAt at w
  cases e0 : ownedL i δ with
  | bad => rw [e0] at w; exact w.elim
  | ex k => unfold ownedL at e0; split at e0 <;> cases e0
  | ok ds =>
    rw [e0] at w
    have ei := ownedL_ok e0
    obtain ⟨w0, cv, sr, up, kp, tm, lst, own, mt⟩ := s.share
    refine q σ (hideD O δ) H _ cv sr _ ?_
    replace w : WpS X.K Y A0 O T H0 ((m (hideD O δ)).run δ fun d => (mj δ).run δ fun j => mPut i ds δ d j) Dn := w
    cases em : m (hideD O δ) with
    | bad => rw [em] at w; exact w
    | ex k => rw [em] at w; exact fun H' t => w σ H' (s.keep t)
    | ok d =>
      rw [em] at w
      replace w : WpS X.K Y A0 O T H0 ((mj δ).run δ fun j => mPut i ds δ d j) Dn := w
      refine fun v H1 t1 r1 => ⟨_, (mt i ds [] [] H ho ei (Same.refl H) .nil).1, qj σ δ H1 A0 (s.covH.mono t1) (s.read.mono t1) _ ?_⟩
      cases ek : mj δ with
      | bad => rw [ek] at w; exact w
      | ex k => rw [ek] at w; exact fun H' t => w σ H' (s.keep (t1.trans t))
      | ok j =>
        rw [ek] at w
        exact fun y H2 t2 r2 => put_core (Y := Y) ho ei (t1.trans t2) mt (Dp.same (Same.mask t2) r1) r2 w
theorem ds_setAtI {i : Nat} {x : Str} {e ej : Expr} {m mj : DS → R D} {px ps pos : Pos} (hi : X.N[i]? = some x) (hv : Vis X.env.scope x) (hps : ∀ {to ti : TE}, PE X (.Name x px) to → PE X ej ti → PG X (.Subscript (.Name x px) ej ps) (gSub to ti rSetL)) (he : DE X Y e m) (hj : DE X Y ej mj) (ho : i ∈ O := by decide) (hd : (x == ("__debug__" : Str)) = false := by decide) (hcd : (x == ("__classdict__" : Str)) = false := by decide)
    (hs : swapsWithSole [.Subscript (.Name x px) ej ps] e pos.line X.env = pure false := by rfl) (hw : swappedStores [.Subscript (.Name x px) ej ps] e X.env = pure none := by rfl) (h1 : (assignEach [.Subscript (.Name x px) ej ps] X.env).map (·.2) = [assign (.Subscript (.Name x px) ej ps) X.env] := by rfl) :
    DSt X Y O (.Assign [.Subscript (.Name x px) ej ps] e pos) (mSetAtI i m mj) := by
  obtain ⟨t, p, q⟩ := he
  obtain ⟨tj, pj, qj⟩ := hj
  refine ⟨_, ps_asg p (hps (pe_var hi hv hd hcd) pj) hs hw h1, fun A0 T H0 σ δ H Dn s w => ?_⟩
  unfold mSetAtI at w
  cases e0 : ownedL i δ with
  | bad => rw [e0] at w; exact w.elim
  | ex k => unfold ownedL at e0; split at e0 <;> cases e0
  | ok ds =>
    rw [e0] at w
    have ei := ownedL_ok e0
    obtain ⟨w0, cv, sr, up, kp, tm, lst, own, mt⟩ := s.share
    refine q σ δ H _ s.covH s.read _ ?_
    replace w : WpS X.K Y A0 O T H0 ((m δ).run δ fun d => (mj δ).run δ fun j => R.when (imm d) (mPut i ds δ d j)) Dn := w
    cases em : m δ with
    | bad => rw [em] at w; exact w
    | ex k => rw [em] at w; exact fun H' t => w σ H' (s.keep t)
    | ok d =>
      rw [em] at w
      replace w : WpS X.K Y A0 O T H0 ((mj δ).run δ fun j => R.when (imm d) (mPut i ds δ d j)) Dn := w
      refine fun v H1 t1 r1 => ⟨_, (mt i ds [] [] H ho ei (Same.refl H) .nil).1, qj σ δ H1 A0 (s.covH.mono t1) (s.read.mono t1) _ ?_⟩
      cases ek : mj δ with
      | bad => rw [ek] at w; exact w
      | ex k => rw [ek] at w; exact fun H' t => w σ H' (s.keep (t1.trans t))
      | ok j =>
        rw [ek] at w
        obtain ⟨hb, w⟩ := R.when_ok (fun r => WpS X.K Y A0 O T H0 r Dn) w id
        exact fun y H2 t2 r2 => put_core (Y := Y) ho ei (t1.trans t2) mt (Dp.tsame (tsame_mask2 fun a q => (lst a q).imp id fun ⟨xs, z⟩ => ⟨xs, t2 _ _ (t1 _ _ z)⟩) hb (Dp.same (Same.mask t2) r1)) r2 w
end
end L2
namespace L2
open PySem PySem.Spec PyProof.Rows
section
variable {X : Cx} {Y : Wy} {O : List Nat}
theorem SS.temp {K : PySem.W.Frag} {A0 : Addr → Prop} {T : List Tm} {H0 H : Hp} {σ : St} {δ : DS} (s : SS K A0 O T H0 σ δ H) (q : Tm) (h : ∀ G : Hp, (∀ p ∈ T, p.P G) → q.P G) : SS K A0 O (q :: T) H0 σ δ H := by
  obtain ⟨w, h1, h2, h3, h4⟩ := s.ex
  exact ⟨⟨w, h1, h2, h3, fun p hp => by
    rcases List.mem_cons.mp hp with rfl | hp
    · exact h _ h4
    · exact h4 p hp⟩, s.len, s.same, s.cov⟩
theorem SS.untemp {K : PySem.W.Frag} {A0 : Addr → Prop} {T : List Tm} {q : Tm} {H0 H : Hp} {σ : St} {δ : DS} (s : SS K A0 O (q :: T) H0 σ δ H) : SS K A0 O T H0 σ δ H := by
  obtain ⟨w, h1, h2, h3, h4⟩ := s.ex
  exact ⟨⟨w, h1, h2, h3, fun p hp => h4 p (List.mem_cons_of_mem _ hp)⟩, s.len, s.same, s.cov⟩
/-- what a temporary fact says of the whole heap -/
theorem SS.tm {K : PySem.W.Frag} {A0 : Addr → Prop} {T : List Tm} {q : Tm} {H0 H : Hp} {σ : St} {δ : DS} (s : SS K A0 O (q :: T) H0 σ δ H) : q.P H := by
  obtain ⟨w, h1, h2, h3, h4⟩ := s.ex
  exact q.mono mask_le (h4 q List.mem_cons_self)
def tmD (K : PySem.W.Frag) (v : V) (d : D) : Tm := ⟨fun H => Dp K H v d, fun s h => Dp.same s h⟩
/-! ## targets -/
def WpG (K : PySem.W.Frag) (A0 : Addr → Prop) (O : List Nat) (T : List Tm) (H0 : Hp) (H : Hp) (r : R DS) (Q : St → Hp → Prop) : Prop :=
  match r with
  | .ok δ => ∀ σ, SS K A0 O T H0 σ δ H → Q σ H
  | _ => False
abbrev GSem (X : Cx) (O : List Nat) (g : TG) (st : D → DS → R DS) : Prop := ∀ (A0 : Addr → Prop) (T : List Tm) (H0 : Hp) (σ : St) (δ : DS) (H : Hp) (v : V) (d : D) (Q : St → Hp → Prop), SS X.K A0 O (tmD X.K v d :: T) H0 σ δ H → WpG X.K A0 O T H0 H (st d δ) Q → g v σ H Q
def DG (X : Cx) (O : List Nat) (tg : Expr) (st : D → DS → R DS) : Prop := ∃ g, PG X tg g ∧ GSem X O g st
def stName (i : Nat) : D → DS → R DS := fun d δ => R.when (inB i δ) (.ok (δ.set i (some d)))
theorem SS.setT {K : PySem.W.Frag} {A0 : Addr → Prop} {T : List Tm} {H0 H : Hp} {σ : St} {δ : DS} {v : V} {d : D} {i : Nat} (s : SS K A0 O (tmD K v d :: T) H0 σ δ H) (ho : i ∉ O) (hb : inB i δ = true) : SS K A0 O T H0 (σ.set i (some v)) (δ.set i (some d)) H := by
  have hl : i < σ.length := by rw [s.len]; exact of_decide_eq_true hb
  obtain ⟨w, h1, h2, h3, h4⟩ := s.ex
  have same : ∀ j ∈ O, (δ.set i (some d))[j]? = δ[j]? := fun j jo => List.getElem?_set_ne (fun e => ho (by rw [e]; exact jo))
  have oe : (fun a => A0 a ∨ ∃ j ∈ O, (∃ x, (δ.set i (some d))[j]? = some (some x)) ∧ a = w j) = (fun a => A0 a ∨ ∃ j ∈ O, (∃ x, δ[j]? = some (some x)) ∧ a = w j) := by
    funext a
    refine propext ⟨fun q => q.imp id fun ⟨j, jo, jd, e⟩ => ⟨j, jo, by rw [same j jo] at jd; exact jd, e⟩, fun q => q.imp id fun ⟨j, jo, jd, e⟩ => ⟨j, jo, by rw [same j jo]; exact jd, e⟩⟩
  refine ⟨⟨w, fun k x ko e => ?_, fun k x ko e => ?_, fun k j ko jo ke je => ?_, fun p hp => ?_⟩, by rw [List.length_set, List.length_set]; exact s.len, s.same, s.cov⟩
  · rw [oe]
    by_cases hk : i = k
    · subst hk
      rw [List.getElem?_set_self (by rw [← s.len]; exact hl)] at e
      rw [List.getElem?_set_self hl]
      cases e
      exact ⟨v, rfl, h4 _ List.mem_cons_self⟩
    · rw [List.getElem?_set_ne hk] at e ⊢
      exact h1 k x ko e
  · rw [oe]
    have hk : i ≠ k := fun e => ho (e ▸ ko)
    rw [List.getElem?_set_ne hk] at e ⊢
    exact h2 k x ko e
  · rw [same k ko] at ke
    rw [same j jo] at je
    exact h3 k j ko jo ke je
  · rw [oe]
    exact h4 p (List.mem_cons_of_mem _ hp)
theorem dg_name {i : Nat} {x : Str} {pos : Pos} (hN : X.N.Nodup) (hi : X.N[i]? = some x) (hx : Loc X.env.scope x) (ho : i ∉ O := by decide) (hf : X.fn x = true ∨ X.env.scope.names.lookup x = some .local := by first | exact .inl rfl | exact .inr rfl | assumption) : DG X O (.Name x pos) (stName i) :=
  ⟨_, pg_name hN hi hx hf, fun A0 T H0 σ δ H v d Q s w => by
    unfold stName at w
    obtain ⟨hb, w⟩ := R.when_ok (fun r => WpG X.K A0 O T H0 H r Q) w id
    exact w _ (s.setT ho hb)⟩
/-! ## for -/
def loopM (st : D → DS → R DS) (m : DS → R Out) : List D → DS → R Out
  | [], δ => .ok (.nx δ)
  | x :: xs, δ => match st x δ with
    | .ok δ1 => match m δ1 with
      | .ok (.nx δ') => loopM st m xs δ'
      | .ok (.ct δ') => loopM st m xs δ'
      | .ok (.bk δ') => .ok (.nx δ')
      | r => r
    | _ => .bad
/-- one turn -/
theorem loop_turn {g : TG} {st : D → DS → R DS} {t : TS} {m : DS → R Out} (hg : GSem X O g st) (ht : TSem X Y O t m) {A0 : Addr → Prop} {T : List Tm} {H0 H : Hp} {σ : St} {δ : DS} {v : V} {d : D} {xs : List D} {Dn : Ends} {N : St → Hp → Prop} {nx : St → Hp → Prop}
    (s : SS X.K A0 O (tmD X.K v d :: T) H0 σ δ H) (w : WpS X.K Y A0 O T H0 (loopM st m (d :: xs) δ) Dn) (hn : ∀ σ' H' δ', SS X.K A0 O T H0 σ' δ' H' → WpS X.K Y A0 O T H0 (loopM st m xs δ') Dn → N σ' H') (hb : ∀ σ' H' δ', SS X.K A0 O T H0 σ' δ' H' → WpS X.K Y A0 O T H0 (.ok (.nx δ')) Dn → nx σ' H') :
    g v σ H fun σ2 H2 => t { Dn with nx := N, ct := N, bk := nx } σ2 H2 := by
  refine hg A0 T H0 σ δ H v d _ s ?_
  unfold loopM at w
  cases e : st d δ with
  | bad => rw [e] at w; exact w.elim
  | ex k => rw [e] at w; exact w.elim
  | ok δ1 =>
    rw [e] at w
    refine fun σ2 s2 => ht A0 T H0 σ2 δ1 H _ s2 ?_
    dsimp only at w
    cases e2 : m δ1 with
    | bad => rw [e2] at w; exact w
    | ex k => rw [e2] at w; exact w
    | ok o =>
      rw [e2] at w
      cases o with
      | nx δ' => exact fun σ' H' s' => hn σ' H' δ' s' w
      | ct δ' => exact fun σ' H' s' => hn σ' H' δ' s' w
      | bk δ' => exact fun σ' H' s' => hb σ' H' δ' s' w
      | rt d => exact w
      | rl d => exact w
      | ex n δ' => exact w

/-- the list, the tuple that is walked, as it is told to all turns -/
def tmL (K : PySem.W.Frag) (a : Addr) (vs : List V) (ds : List D) : Tm := ⟨fun H => SqL K H a vs ∧ DpAll K H vs ds, fun s h => ⟨sqL_same s h.1, DpAll.same s h.2⟩⟩
def tmT (K : PySem.W.Frag) (a : Addr) (vs : List V) (ds : List D) : Tm := ⟨fun H => SqT K H a vs ∧ DpAll K H vs ds, fun s h => ⟨sqT_same s h.1, DpAll.same s h.2⟩⟩
def mFor (O : List Nat) (me : DS → R D) (st : D → DS → R DS) (m : DS → R Out) : DS → R Out := fun δ => (me (hideD O δ)).run δ fun d => match seqD d with
  | some ds => loopM st m ds δ
  | none => .bad
def mForR (ms : DS → R (List D)) (st : D → DS → R DS) (m : DS → R Out) : DS → R Out := fun δ => (ms δ).run δ fun ds => match ds with
  | [.int n] => R.when (decide (-(2 ^ 62) ≤ n ∧ n < 2 ^ 62)) (loopM st m ((List.range n.toNat).map fun i => .int (i : Nat)) δ)
  | [.int a, .int b] => R.when (decide (-(2 ^ 62) ≤ a ∧ a < 2 ^ 62 ∧ -(2 ^ 62) ≤ b ∧ b < 2 ^ 62)) (loopM st m ((List.range (b - a).toNat).map fun i => .int (a + (i : Nat))) δ)
  | _ => .bad
theorem take_next {α : Type} {l : List α} {i : Nat} {x : α} (h : l[i]? = some x) : l.drop i = x :: l.drop (i + 1) := by
  obtain ⟨hi, rfl⟩ := List.getElem?_eq_some_iff.mp h
  exact List.drop_eq_getElem_cons hi
theorem PI.orD {tg it : Expr} {w1 w2 : TI} (h1 : PI X tg it w1) (h2 : PI X tg it w2) : PI X tg it (fun σ H R => w1 σ H R ∨ w2 σ H R) := ⟨fun pins s σ H R I h => by
  rcases h with h | h
  · exact h1.run pins s σ H R I h
  · exact h2.run pins s σ H R I h⟩
theorem WpS.push {K : PySem.W.Frag} {A0 : Addr → Prop} {T : List Tm} {H0 : Hp} {r : R Out} {Dn : Ends} (q : Tm) (w : WpS K Y A0 O T H0 r Dn) : WpS K Y A0 O (q :: T) H0 r Dn := by
  cases r with
  | bad => exact w
  | ex n => exact w
  | ok o =>
    cases o with
    | nx δ => exact fun σ H' s => w σ H' s.untemp
    | bk δ => exact fun σ H' s => w σ H' s.untemp
    | ct δ => exact fun σ H' s => w σ H' s.untemp
    | rt d => exact w
    | rl d => exact w
    | ex n δ' => exact fun σ H' s => w σ H' s.untemp
/-- the turns over what a temporary fact tells: items vs, data ds -/
theorem loop_all {tm : Tm} {g : TG} {st : D → DS → R DS} {tb : TS} {m : DS → R Out} (qg : GSem X O g st) (qb : TSem X Y O tb m) {A0 : Addr → Prop} {T : List Tm} {H0 : Hp} {Dn : Ends} {ds : List D} {i : Nat} {x : V} {d : D} (hd : ds[i]? = some d) (hx : ∀ G, tm.P G → Dp X.K G x d)
    {σ' : St} {H' : Hp} (h : ∃ δ', SS X.K A0 O (tm :: T) H0 σ' δ' H' ∧ WpS X.K Y A0 O (tm :: T) H0 (loopM st m (ds.drop i) δ') Dn) :
    g x σ' H' fun σ2 H2 => tb { Dn with nx := fun σ' H' => ∃ δ', SS X.K A0 O (tm :: T) H0 σ' δ' H' ∧ WpS X.K Y A0 O (tm :: T) H0 (loopM st m (ds.drop (i + 1)) δ') Dn, ct := fun σ' H' => ∃ δ', SS X.K A0 O (tm :: T) H0 σ' δ' H' ∧ WpS X.K Y A0 O (tm :: T) H0 (loopM st m (ds.drop (i + 1)) δ') Dn, bk := Dn.nx } σ2 H2 := by
  obtain ⟨δ', s', w'⟩ := h
  rw [take_next hd] at w'
  have s2 : SS X.K A0 O (tmD X.K x d :: tm :: T) H0 σ' δ' H' := s'.temp (tmD X.K x d) fun G hG => hx G (hG tm List.mem_cons_self)
  exact loop_turn (T := tm :: T) (Y := Y) (Dn := Dn) (xs := ds.drop (i + 1)) (d := d) qg qb s2 w' (fun σ' H' δ' s w => ⟨δ', s, w⟩) (fun σ' H' δ' s w => w _ _ s)
/-- for target in e: e a list or a tuple -/
theorem ds_for {it tg : Expr} {body : List Stmt} {me : DS → R D} {st : D → DS → R DS} {m : DS → R Out} {pos : Pos} (hp : PassesOwn (model X.prog X.w) X.A X.env X.xe) (hc : X.calm = true) (he : DE X Y it me) (hg : DG X O tg st) (hb : DSs X Y O body m)
    (hs : ∀ x, foldedSetIterable it X.env x = pure x := by intro _; rfl) : DSt X Y O (.For tg it body [] pos) (mFor O me st m) := by
  obtain ⟨te, pe, qe⟩ := he
  obtain ⟨g, pg, qg⟩ := hg
  obtain ⟨tb, pb, qb⟩ := hb
  refine ⟨_, ps_for hp hc (PI.orD (pi_list pe) (pi_tup pe)) pg pb hs, fun A0 T H0 σ δ H Dn s w => ?_⟩
  obtain ⟨w0, cv, sr, up, kp, tm, _⟩ := s.share
  unfold mFor at w
  cases e : me (hideD O δ) with
  | bad => rw [e] at w; exact w.elim
  | ex k => rw [e] at w; exact .inl (qe σ (hideD O δ) H _ cv sr _ (by rw [e]; exact fun H' t => w σ H' (s.keep t)))
  | ok d =>
    rw [e] at w
    dsimp only [R.run] at w
    cases d with
    | list ds =>
      refine .inl (qe σ (hideD O δ) H _ cv sr _ ?_)
      rw [e]
      intro v H1 t1 r1
      obtain ⟨a, us, rfl, h1, h2⟩ := dp_list r1
      have s1 : SS X.K A0 O (tmL X.K a us ds :: T) H0 σ δ H1 := tm (tmL X.K a us ds) H1 t1 ⟨h1, h2⟩
      refine ⟨a, rfl, ⟨us, sqL_same mask_le h1⟩, for_list (K := X.K) (a := a) (xs := us) (fun i σ' H' => ∃ δ', SS X.K A0 O (tmL X.K a us ds :: T) H0 σ' δ' H' ∧ WpS X.K Y A0 O (tmL X.K a us ds :: T) H0 (loopM st m (ds.drop i) δ') Dn)
        ⟨δ, s1, WpS.push _ w⟩ (fun i σ' H' _ ⟨δ', s', _⟩ => s'.tm.1) (fun i x σ' H' hi h => ?_) (fun σ' H' ⟨δ', s', w'⟩ => ?_)⟩
      · obtain ⟨dx, hd, _⟩ := h2.get2 hi
        exact loop_all qg qb hd (fun G hG => by
          obtain ⟨dx', hd', hr'⟩ := hG.2.get2 hi
          rw [hd] at hd'
          cases hd'
          exact hr') h
      · rw [h2.len, List.drop_length] at w'
        exact w' _ _ s'
    | tuple ds =>
      refine .inr (qe σ (hideD O δ) H _ cv sr _ ?_)
      rw [e]
      intro v H1 t1 r1
      obtain ⟨a, us, rfl, h1, h2⟩ := dp_tup r1
      have s1 : SS X.K A0 O (tmT X.K a us ds :: T) H0 σ δ H1 := tm (tmT X.K a us ds) H1 t1 ⟨h1, h2⟩
      refine ⟨a, rfl, ⟨us, sqT_same mask_le h1⟩, for_tup (K := X.K) (a := a) (xs := us) (fun i σ' H' => ∃ δ', SS X.K A0 O (tmT X.K a us ds :: T) H0 σ' δ' H' ∧ WpS X.K Y A0 O (tmT X.K a us ds :: T) H0 (loopM st m (ds.drop i) δ') Dn)
        ⟨δ, s1, WpS.push _ w⟩ (fun i σ' H' _ ⟨δ', s', _⟩ => s'.tm.1) (fun i x σ' H' hi h => ?_) (fun σ' H' ⟨δ', s', w'⟩ => ?_)⟩
      · obtain ⟨dx, hd, _⟩ := h2.get2 hi
        exact loop_all qg qb hd (fun G hG => by
          obtain ⟨dx', hd', hr'⟩ := hG.2.get2 hi
          rw [hd] at hd'
          cases hd'
          exact hr') h
      · rw [h2.len, List.drop_length] at w'
        exact w' _ _ s'
    | _ => exact w.elim
def tm0 : Tm := ⟨fun _ => True, fun _ _ => trivial⟩
theorem range_at {n i : Nat} {f : Nat → D} (h : i < n) : ((List.range n).map f)[i]? = some (f i) := by
  rw [List.getElem?_map, List.getElem?_range h]; rfl
theorem loop_range {g : TG} {st : D → DS → R DS} {tb : TS} {m : DS → R Out} (qg : GSem X O g st) (qb : TSem X Y O tb m) {A0 : Addr → Prop} {T : List Tm} {H0 H1 : Hp} {σ : St} {δ : DS} {Dn : Ends} {lo : Int} {n : Nat} (s : SS X.K A0 O T H0 σ δ H1)
    (w : WpS X.K Y A0 O T H0 (loopM st m ((List.range n).map fun i => .int (lo + (i : Nat))) δ) Dn) :
    ∃ W : Nat → Nat → St → Hp → Prop, (∃ m, W 0 m σ H1) ∧ ∀ i m σ H, W i m σ H →
      ((Itr lo n).stop i H ∧ Dn.nx σ H) ∨ ((Itr lo n).go i H ∧ ∃ N : St → Hp → Prop, (∀ σ' H', N σ' H' → ∃ m', m' < m ∧ W (i + 1) m' σ' H') ∧ ∀ x H', (Itr lo n).yld i H x H' → g x σ H' fun σ2 H2 => tb { Dn with nx := N, ct := N, bk := Dn.nx } σ2 H2) := by
  refine for_range (lo := lo) (n := n) (fun i σ' H' => ∃ δ', SS X.K A0 O (tm0 :: T) H0 σ' δ' H' ∧ WpS X.K Y A0 O (tm0 :: T) H0 (loopM st m (((List.range n).map fun j : Nat => (PyData.int (lo + (j : Nat)) : D)).drop i) δ') Dn)
    ⟨δ, s.temp tm0 fun _ _ => trivial, WpS.push _ w⟩ (fun i σ' H' hi h => ?_) (fun σ' H' ⟨δ', s', w'⟩ => ?_)
  · exact loop_all (tm := tm0) qg qb (range_at (f := fun i => .int (lo + (i : Nat))) hi) (fun G _ => .int _) h
  · rw [List.drop_of_length_le (by rw [List.length_map, List.length_range]; exact Nat.le_refl _)] at w'
    exact w' _ _ s'
theorem ds_forR1 {a tg : Expr} {body : List Stmt} {m1 : DS → R D} {st : D → DS → R DS} {m : DS → R Out} {p pos pos' : Pos} (hp : PassesOwn (model X.prog X.w) X.A X.env X.xe) (hc : X.calm = true) (hgl : Gl X "range") (hm : X.mg "range" = none) (ha : DA X Y [a] (mCons m1 mNil)) (hg : DG X O tg st) (hb : DSs X Y O body m)
    (hs1 : starEach [a] X.env = [(false, eval a X.env)] := by rfl) (hs : ∀ x, foldedSetIterable (.Call (.Name "range" p) [a] [] pos') X.env x = pure x := by intro _; rfl) : DSt X Y O (.For tg (.Call (.Name "range" p) [a] [] pos') body [] pos) (mForR (mCons m1 mNil) st m) := by
  obtain ⟨ta, pa, qa⟩ := ha
  obtain ⟨g, pg, qg⟩ := hg
  obtain ⟨tb, pb, qb⟩ := hb
  refine ⟨_, ps_for hp hc (pi_range1 hgl hm pa hs1) pg pb hs, fun A0 T H0 σ δ H Dn s w => qa σ δ H A0 s.covH s.read _ ?_⟩
  unfold mForR at w
  cases e : mCons m1 mNil δ with
  | bad => rw [e] at w; exact w
  | ex k => rw [e] at w; exact fun H' t => w σ H' (s.keep t)
  | ok ds =>
    rw [e] at w
    dsimp only [R.run] at w
    refine fun vs H1 t1 r1 => ?_
    split at w
    · rename_i n
      obtain ⟨v, rfl, r2⟩ := dpAll1 r1
      cases r2
      obtain ⟨hb, w⟩ := R.when_ok (fun r => WpS X.K Y A0 O T H0 r Dn) w id
      obtain ⟨b1, b2⟩ := of_decide_eq_true hb
      refine ⟨n, rfl, b1, b2, loop_range qg qb (s.keep t1) ?_⟩
      simpa using w
    · exfalso
      have := r1.len
      unfold mCons mNil at e
      cases q : m1 δ <;> rw [q] at e <;> cases e
    · exact w.elim
theorem ds_forR2 {a b tg : Expr} {body : List Stmt} {ms : DS → R (List D)} {st : D → DS → R DS} {m : DS → R Out} {p pos pos' : Pos} (hp : PassesOwn (model X.prog X.w) X.A X.env X.xe) (hc : X.calm = true) (hgl : Gl X "range") (hm : X.mg "range" = none) (ha : DA X Y [a, b] ms) (hg : DG X O tg st) (hb : DSs X Y O body m) (hlen : ∀ δ ds, ms δ = .ok ds → ds.length = 2)
    (hs1 : starEach [a, b] X.env = [(false, eval a X.env), (false, eval b X.env)] := by rfl) (hs2 : starEach [b] X.env = [(false, eval b X.env)] := by rfl) (hs : ∀ x, foldedSetIterable (.Call (.Name "range" p) [a, b] [] pos') X.env x = pure x := by intro _; rfl) :
    DSt X Y O (.For tg (.Call (.Name "range" p) [a, b] [] pos') body [] pos) (mForR ms st m) := by
  obtain ⟨ta, pa, qa⟩ := ha
  obtain ⟨g, pg, qg⟩ := hg
  obtain ⟨tb, pb, qb⟩ := hb
  refine ⟨_, ps_for hp hc (pi_range2 hgl hm pa hs1 hs2) pg pb hs, fun A0 T H0 σ δ H Dn s w => qa σ δ H A0 s.covH s.read _ ?_⟩
  unfold mForR at w
  cases e : ms δ with
  | bad => rw [e] at w; exact w
  | ex k => rw [e] at w; exact fun H' t => w σ H' (s.keep t)
  | ok ds =>
    have hl := hlen δ ds e
    rw [e] at w
    dsimp only [R.run] at w
    refine fun vs H1 t1 r1 => ?_
    split at w
    · cases hl
    · rename_i n k
      obtain ⟨v, u, rfl, r2, r3⟩ := dpAll2 r1
      cases r2
      cases r3
      obtain ⟨hb, w⟩ := R.when_ok (fun r => WpS X.K Y A0 O T H0 r Dn) w id
      exact ⟨n, k, rfl, of_decide_eq_true hb, loop_range qg qb (s.keep t1) w⟩
    · exact w.elim
/-! ## while -/
def whileM (mc : DS → R Bool) (m : DS → R Out) : Nat → DS → R Out
  | 0, _ => .bad
  | n + 1, δ => (mc δ).run δ fun b => if b = true then (match m δ with
    | .ok (.nx δ') => whileM mc m n δ'
    | .ok (.ct δ') => whileM mc m n δ'
    | .ok (.bk δ') => .ok (.nx δ')
    | r => r) else .ok (.nx δ)
theorem ds_while (fuel : DS → Nat) {c : Expr} {body : List Stmt} {mc : DS → R Bool} {m : DS → R Out} {pos : Pos} (hp : PassesOwn (model X.prog X.w) X.A X.env X.xe) (hc : DT X Y c mc) (hb : DSs X Y O body m) : DSt X Y O (.While c body [] pos) (fun δ => whileM mc m (fuel δ) δ) := by
  obtain ⟨tc, pc, qc⟩ := hc
  obtain ⟨tb, pb, qb⟩ := hb
  refine ⟨_, ps_while hp pc pb, fun A0 T H0 σ δ H Dn s w => ?_⟩
  refine ⟨fun k σ H => ∃ δ, SS X.K A0 O T H0 σ δ H ∧ WpS X.K Y A0 O T H0 (whileM mc m k δ) Dn, ⟨fuel δ, δ, s, w⟩, fun k σ H ⟨δ, s, w⟩ => ?_⟩
  refine qc σ δ H A0 s.covH s.read _ ?_
  cases k with
  | zero => exact w.elim
  | succ k =>
    unfold whileM at w
    cases e : mc δ with
    | bad => rw [e] at w; exact w
    | ex j => rw [e] at w; exact fun H' t => w σ H' (s.keep t)
    | ok b =>
      rw [e] at w
      dsimp only [R.run] at w
      refine fun H1 t1 => ?_
      cases b with
      | false => exact w σ H1 (s.keep t1)
      | true =>
        rw [if_pos rfl] at w
        rw [if_pos rfl]
        refine ⟨fun σ' H' => ∃ δ, SS X.K A0 O T H0 σ' δ H' ∧ WpS X.K Y A0 O T H0 (whileM mc m k δ) Dn, fun σ' H' h => ⟨k, Nat.lt_succ_self k, h⟩, qb A0 T H0 σ δ H1 _ (s.keep t1) ?_⟩
        cases e2 : m δ with
        | bad => rw [e2] at w; exact w
        | ex j => rw [e2] at w; exact w
        | ok o =>
          rw [e2] at w
          cases o with
          | nx δ' => exact fun σ' H' s' => ⟨δ', s', w⟩
          | ct δ' => exact fun σ' H' s' => ⟨δ', s', w⟩
          | bk δ' => exact fun σ' H' s' => w σ' H' s'
          | rt d => exact w
          | rl d => exact w
          | ex n δ' => exact w
end
end L2
namespace L2
open PySem PySem.Spec PyProof.Rows
section
variable {X : Cx} {Y : Wy}
/-! ## comprehensions -/
def noX (Y : Wy) : Wy := ⟨Y.cv, fun _ => E0⟩
/-- slots of the block: its own names are forgotten -/
def wipeD (δ : DS) : List Nat → DS
  | [] => δ
  | v :: vs => (wipeD δ vs).set v none
theorem wipeD_length (δ : DS) : ∀ vs : List Nat, (wipeD δ vs).length = δ.length
  | [] => rfl
  | v :: vs => by unfold wipeD; rw [List.length_set, wipeD_length δ vs]
theorem SR.wipe1 {K : PySem.W.Frag} {A : Addr → Prop} {σ : St} {δ : DS} {H : Hp} (s : ∀ (i : Nat) (d : D), δ[i]? = some (some d) → ∃ v, σ[i]? = some (some v) ∧ Dp K (mask A H) v d) : ∀ vs : List Nat, ∀ (i : Nat) (d : D), (wipeD δ vs)[i]? = some (some d) → ∃ v, (wipe σ vs)[i]? = some (some v) ∧ Dp K (mask A H) v d
  | [] => s
  | v :: vs => fun i d e => by
    have ih := SR.wipe1 s vs
    unfold wipeD at e
    by_cases h : v = i
    · subst h
      by_cases hl : v < (wipeD δ vs).length
      · rw [List.getElem?_set_self hl] at e; cases e
      · rw [List.getElem?_eq_none (by simpa using hl)] at e; cases e
    · rw [List.getElem?_set_ne h] at e
      unfold L2.wipe
      rw [List.getElem?_set_ne h]
      exact ih i d e
theorem SR.wipe {K : PySem.W.Frag} {A : Addr → Prop} {σ : St} {δ : DS} {H : Hp} (s : SR K A σ δ H) (vs : List Nat) : SR K A (wipe σ vs) (wipeD δ vs) H := ⟨SR.wipe1 s.1 vs, by rw [wipe_length, wipeD_length]; exact s.2⟩
theorem SR.set {K : PySem.W.Frag} {A : Addr → Prop} {σ : St} {δ : DS} {H : Hp} {v : V} {d : D} {j : Nat} (s : SR K A σ δ H) (r : Dp K (mask A H) v d) : SR K A (σ.set j (some v)) (δ.set j (some d)) H := ⟨fun i x e => by
  by_cases h : j = i
  · subst h
    by_cases hj : j < δ.length
    · rw [List.getElem?_set_self hj] at e
      cases e
      exact ⟨v, List.getElem?_set_self (Nat.lt_of_lt_of_le hj s.2), r⟩
    · rw [List.getElem?_eq_none (by simpa using hj)] at e; cases e
  · rw [List.getElem?_set_ne h] at e ⊢
    exact s.1 i x e, by rw [List.length_set, List.length_set]; exact s.2⟩
def compM (j : Nat) (mt : DS → R Bool) (me : DS → R D) (δ : DS) : List D → R (List D)
  | [] => .ok []
  | x :: xs => match mt (δ.set j (some x)) with
    | .ok true => match me (δ.set j (some x)) with
      | .ok y => (compM j mt me δ xs).map fun ys => y :: ys
      | _ => .bad
    | .ok false => compM j mt me δ xs
    | _ => .bad
def mYes : DS → R Bool := fun _ => .ok true
/-- the one reading of an expression, a test -/
def canE (K : PySem.W.Frag) (Y : Wy) (m : DS → R D) : TE := fun σ H Q => ∃ δ A, Cov A H ∧ SR K A σ δ H ∧ WpE K (Y.at σ) A H (m δ) Q
def canT (K : PySem.W.Frag) (Y : Wy) (m : DS → R Bool) : TT := fun σ H Q => ∃ δ A, Cov A H ∧ SR K A σ δ H ∧ WpT (Y.at σ) H (m δ) Q
theorem DE.can {e : Expr} {m : DS → R D} (h : DE X Y e m) : PE X e (canE X.K Y m) := by
  obtain ⟨t, p, q⟩ := h
  exact ⟨fun pins s σ H Q I ⟨δ, A, c, sr, w⟩ => p.run pins s σ H Q I (q σ δ H A c sr Q w)⟩
def DTs (X : Cx) (Y : Wy) (es : List Expr) (m : DS → R Bool) : Prop := ∃ t, PTs X es t ∧ ∀ (σ : St) (δ : DS) (H : Hp) (A : Addr → Prop), Cov A H → SR X.K A σ δ H → ∀ Q : Bool → Hp → Prop, WpT (Y.at σ) H (m δ) Q → t σ H Q
theorem DTs.can {es : List Expr} {m : DS → R Bool} (h : DTs X Y es m) : PTs X es (canT X.K Y m) := by
  obtain ⟨t, p, q⟩ := h
  exact ⟨fun pins s σ H Q I ⟨δ, A, c, sr, w⟩ => p.run pins s σ H Q I (q σ δ H A c sr Q w)⟩
theorem dts_nil : DTs X Y [] mYes := ⟨_, pts_nil, fun σ δ H A c s Q w => w H (Same.refl H)⟩
theorem dts_one {e : Expr} {m : DS → R Bool} (h : DT X Y e m) : DTs X Y [e] m := by
  obtain ⟨t, p, q⟩ := h
  exact ⟨_, pts_one p, q⟩
/-- one turn of a comprehension -/
theorem comp_turn {K : PySem.W.Frag} {mt : DS → R Bool} {me : DS → R D} {j : Nat} {δ : DS} {σ2 : St} {A : Addr → Prop} {H : Hp} {Dl : Addr} {x : D} {xs : List D} {tot pre : List D} {acc : List V} {Pv : Hp → Prop}
    (c : Cov A H) (nA : ¬ A Dl) (s : SR K (fun a => A a ∨ a = Dl) σ2 (δ.set j (some x)) H) (hD : H Dl = some (.lst acc)) (ha : DpAll K (mask (fun a => A a ∨ a = Dl) H) acc pre)
    (hz : pre.length < sizeLine) (e : ∃ ys, compM j mt me δ (x :: xs) = .ok ys ∧ tot = pre ++ ys)
    (k : ∀ (acc' : List V) (pre' : List D) (H' : Hp), Same H H' ∨ True → (∀ b o, b ≠ Dl → H b = some o → H' b = some o) → H' Dl = some (.lst acc') → pre'.length ≤ pre.length + 1 → DpAll K (mask (fun a => A a ∨ a = Dl) H') acc' pre' → (∃ ys, compM j mt me δ xs = .ok ys ∧ tot = pre' ++ ys) → Pv H') :
    canT K (noX Y) mt σ2 H fun b H3 => if b = true then canE K (noX Y) me σ2 H3 fun y H4 => ∃ acc, H4 Dl = some (.lst acc) ∧ acc.length < sizeLine ∧ Pv (upd H4 Dl (.lst (acc ++ [y]))) else Pv H3 := by
  obtain ⟨ys, e, et⟩ := e
  have c' : Cov (fun a => A a ∨ a = Dl) H := c.add hD
  refine ⟨_, _, c', s, ?_⟩
  unfold compM at e
  cases e1 : mt (δ.set j (some x)) with
  | bad => rw [e1] at e; cases e
  | ex n => rw [e1] at e; cases e
  | ok b =>
    rw [e1] at e
    refine fun H3 t3 => ?_
    cases b with
    | false => exact k acc pre H3 (.inr trivial) (fun b o _ q => t3 _ _ q) (t3 _ _ hD) (Nat.le_succ _) (DpAll.same (Same.mask t3) ha) ⟨ys, e, et⟩
    | true =>
      rw [if_pos rfl]
      refine ⟨_, _, c'.mono t3, s.mono t3, ?_⟩
      dsimp only at e
      cases e2 : me (δ.set j (some x)) with
      | bad => rw [e2] at e; cases e
      | ex n => rw [e2] at e; cases e
      | ok y =>
        rw [e2] at e
        refine fun u H4 t4 r4 => ⟨acc, t4 _ _ (t3 _ _ hD), by rw [ha.len]; exact hz, ?_⟩
        dsimp only at e
        cases e3 : compM j mt me δ xs with
        | bad => rw [e3] at e; cases e
        | ex n => rw [e3] at e; cases e
        | ok zs =>
          rw [e3] at e
          cases e
          have mk : Same (mask (fun a => A a ∨ a = Dl) H4) (mask (fun a => A a ∨ a = Dl) (upd H4 Dl (.lst (acc ++ [u])))) := fun b o q => by
            rw [mask_some] at q ⊢
            refine ⟨q.1, ?_⟩
            rw [upd_ne fun z => q.1 (.inr z)]
            exact q.2
          refine k (acc ++ [u]) (pre ++ [y]) _ (.inr trivial) (fun b o nb q => ?_) upd_same (by rw [List.length_append]; exact Nat.le_refl _) ?_ ⟨zs, e3, by rw [List.append_assoc]; exact et⟩
          · rw [upd_ne nb]
            exact t4 _ _ (t3 _ _ q)
          · exact (DpAll.same ((Same.mask (t3.trans t4)).trans mk) ha).app (.cons (Dp.same mk r4) .nil)
/-- the state in a comprehension's loop: i items are behind -/
structure CS (K : PySem.W.Frag) (A : Addr → Prop) (σ : St) (δ : DS) (H1 : Hp) (Dl : Addr) (j : Nat) (mt : DS → R Bool) (me : DS → R D) (tot : List D) (rest : List D) (i : Nat) (H : Hp) : Prop where
  ex : ∃ acc pre, H Dl = some (.lst acc) ∧ DpAll K (mask (fun a => A a ∨ a = Dl) H) acc pre ∧ pre.length ≤ i ∧ ∃ ys, compM j mt me δ rest = .ok ys ∧ tot = pre ++ ys
  same : Same H1 H
theorem CS.sr {K : PySem.W.Frag} {A : Addr → Prop} {σ : St} {δ : DS} {H1 H : Hp} {Dl : Addr} {j i : Nat} {mt : DS → R Bool} {me : DS → R D} {tot rest : List D} (cs : CS K A σ δ H1 Dl j mt me tot rest i H) (hn : H1 Dl = none) (s : SR K A σ δ H1) :
    SR K (fun a => A a ∨ a = Dl) σ δ H := by
  refine ⟨fun i d e => ?_, s.2⟩
  obtain ⟨v, q1, q2⟩ := s.1 i d e
  refine ⟨v, q1, Dp.same (fun b o q => ?_) q2⟩
  rw [mask_some] at q ⊢
  refine ⟨fun z => z.elim q.1 fun z => ?_, cs.same _ _ q.2⟩
  rw [z, hn] at q; cases q.2
def mComp (vs : List Nat) (j : Nat) (mi : DS → R D) (mt : DS → R Bool) (me : DS → R D) : DS → R (List D) := fun δ => (mi δ).bind fun d => match seqD d with
  | some ds => R.when (ltOk ds.length) (compM j mt me (wipeD δ vs) ds)
  | none => .bad
/-- the turns of a comprehension over items vs, data ds -/
theorem comp_step {K : PySem.W.Frag} {A : Addr → Prop} {σ : St} {δ : DS} {H1 : Hp} {Dl : Addr} {j : Nat} {mt : DS → R Bool} {me : DS → R D} {tot ds : List D} {vs : List Nat} (c1 : Cov A H1) (hn : H1 Dl = none) (s1 : SR K A σ δ H1) (hz : ds.length < sizeLine)
    (hw : ∀ x, wipe ((wipe σ vs).set j (some x)) vs = wipe σ vs) {i : Nat} {x : V} {d : D} (hd : ds[i]? = some d) {H : Hp} (hx : ∀ B : Addr → Prop, (∀ a, B a → A a ∨ a = Dl) → Dp K (mask B H) x d) (cs : CS K A (wipe σ vs) (wipeD δ vs) H1 Dl j mt me tot (ds.drop i) i H) :
    gName j x (wipe σ vs) H fun σ2 H2 => wipe σ2 vs = wipe σ vs ∧ canT K (noX Y) mt σ2 H2 fun b H3 =>
      if b = true then canE K (noX Y) me σ2 H3 fun y H4 => ∃ acc, H4 Dl = some (.lst acc) ∧ acc.length < sizeLine ∧ CS K A (wipe σ vs) (wipeD δ vs) H1 Dl j mt me tot (ds.drop (i + 1)) (i + 1) (upd H4 Dl (.lst (acc ++ [y]))) else CS K A (wipe σ vs) (wipeD δ vs) H1 Dl j mt me tot (ds.drop (i + 1)) (i + 1) H3 := by
  refine ⟨hw x, ?_⟩
  obtain ⟨⟨acc, pre, q1, q2, q3, q4⟩, q5⟩ := id cs
  have hi : i < ds.length := (List.getElem?_eq_some_iff.mp hd).1
  rw [take_next hd] at q4
  refine comp_turn (Y := Y) (A := A) (pre := pre) (acc := acc) (tot := tot) (c1.mono q5) (c1.new hn) ((cs.sr hn (s1.wipe vs)).set (hx _ fun a h => h)) q1 q2 (by omega) q4 fun acc' pre' H' _ st hD hp ha he => ⟨⟨acc', pre', hD, ha, by omega, he⟩, fun b o q => ?_⟩
  have nb : b ≠ Dl := fun z => by rw [z, hn] at q; cases q
  exact st b o nb (q5 _ _ q)

def dBlk (X : Cx) (Y : Wy) (scope : Scope) (e : Expr) (m : DS → R D) : Prop := ∀ (s : Shared) (H : Hp) (C : Addr) (cl : List (Str × Addr)) (fp : List Addr), DE (X.blk s H scope (compEnvC scope cl C X.env) fp) (noX Y) e m
def tBlk (X : Cx) (Y : Wy) (scope : Scope) (es : List Expr) (m : DS → R Bool) : Prop := ∀ (s : Shared) (H : Hp) (C : Addr) (cl : List (Str × Addr)) (fp : List Addr), DTs (X.blk s H scope (compEnvC scope cl C X.env) fp) (noX Y) es m
theorem comp_fin {K : PySem.W.Frag} {A : Addr → Prop} {σ : St} {δ : DS} {H H1 : Hp} {Dl : Addr} {j : Nat} {mt : DS → R Bool} {me : DS → R D} {tot : List D} {n : Nat} {Hf : Hp} {Q : VK} (t1 : Same H H1) (hn : H1 Dl = none) (cs : CS K A σ δ H1 Dl j mt me tot [] n Hf)
    {Z : Wx} (w : WpL K Z A H (.ok tot) Q) : Q (.ref Dl) Hf := by
  obtain ⟨⟨acc, pre, q1, q2, q3, ys, q4, q6⟩, q5⟩ := cs
  unfold compM at q4
  cases q4
  rw [List.append_nil] at q6
  subst q6
  exact w Dl acc Hf (t1.trans q5) (Same.free t1 hn) q1 q2
abbrev NSem (X : Cx) (Y : Wy) (t : TE) (m : DS → R (List D)) : Prop := ∀ (σ : St) (δ : DS) (H : Hp) (A : Addr → Prop), Cov A H → SR X.K A σ δ H → ∀ Q : VK, WpL X.K (Y.at σ) A H (m δ) Q → t σ H Q
/-- [elt for x in e if ..], e a list or a tuple -/
theorem comp_sem {vs0 : List Nat} {j : Nat} {mi me : DS → R D} {mt : DS → R Bool} {ti : TE} (qi : ∀ (σ : St) (δ : DS) (H : Hp) (A : Addr → Prop), Cov A H → SR X.K A σ δ H → ∀ Q : VK, WpE X.K (Y.at σ) A H (mi δ) Q → ti σ H Q)
    (hw : ∀ σ x, wipe ((wipe σ vs0).set j (some x)) vs0 = wipe σ vs0) : NSem X Y (tLc (fun σ H R => iList X.K ti σ H R ∨ iTup X.K ti σ H R) (gName j) (canT X.K (noX Y) mt) (canE X.K (noX Y) me) vs0) (mComp vs0 j mi mt me) := fun σ δ H A c s Q w => by
  unfold mComp at w
  cases e : mi δ with
  | bad => rw [e] at w; exact w.elim
  | ex k => rw [e] at w; exact .inl (qi σ δ H A c s _ (by rw [e]; exact w))
  | ok d =>
    rw [e] at w
    dsimp only [R.bind] at w
    have key : ∀ (ds : List D), WpL X.K (Y.at σ) A H (R.when (ltOk ds.length) (compM j mt me (wipeD δ vs0) ds)) Q → ds.length < sizeLine ∧ ∃ tot, compM j mt me (wipeD δ vs0) ds = .ok tot ∧ WpL X.K (Y.at σ) A H (.ok tot) Q := fun ds w => by
      obtain ⟨hb, w⟩ := WpL.when w
      refine ⟨of_decide_eq_true hb, ?_⟩
      have nox : ∀ xs, ∀ n, compM j mt me (wipeD δ vs0) xs ≠ .ex n := fun xs => by
        induction xs with
        | nil => intro n q; unfold compM at q; cases q
        | cons x xs ih =>
          intro n q
          unfold compM at q
          split at q
          · split at q
            · rename_i y _
              cases e3 : compM j mt me (wipeD δ vs0) xs with
              | bad => rw [e3] at q; cases q
              | ex k => exact ih k e3
              | ok z => rw [e3] at q; cases q
            · cases q
          · exact ih n q
          · cases q
      cases e2 : compM j mt me (wipeD δ vs0) ds with
      | bad => rw [e2] at w; exact w.elim
      | ex k => exact absurd e2 (nox ds k)
      | ok tot => rw [e2] at w; exact ⟨tot, rfl, w⟩
    cases d with
    | list ds =>
      obtain ⟨hz, tot, e2, w⟩ := key ds w
      refine .inl (qi σ δ H A c s _ ?_)
      rw [e]
      intro v H1 t1 r1
      obtain ⟨a, us, rfl, h1, h2⟩ := dp_list r1
      have ha := h2.len
      refine ⟨a, rfl, ⟨us, sqL_same mask_le h1⟩, fun Dl hD => ?_⟩
      refine lc_list (K := X.K) (a := a) (xs := us) (fun i H' => CS X.K A (wipe σ vs0) (wipeD δ vs0) H1 Dl j mt me tot (ds.drop i) i H') ⟨⟨[], [], upd_same, .nil, Nat.zero_le _, tot, e2, rfl⟩, same_upd hD⟩ (fun i H' _ cs => sqL_same cs.same (sqL_same mask_le h1)) (fun i x H' hx cs => ?_) (fun H' cs => ?_)
      · obtain ⟨dx, hd, r⟩ := h2.get2 hx
        exact comp_step (Y := Y) (c.mono t1) hD (s.mono t1) hz (hw σ) hd (fun B hB => Dp.same (fun b o q => by
          rw [mask_some] at q ⊢
          refine ⟨fun z => (hB b z).elim q.1 fun z => ?_, cs.same _ _ q.2⟩
          rw [z, hD] at q; cases q.2) r) cs
      · have e0 : ds.drop us.length = [] := by rw [ha, List.drop_length]
        rw [e0] at cs
        exact comp_fin t1 hD cs w
    | tuple ds =>
      obtain ⟨hz, tot, e2, w⟩ := key ds w
      refine .inr (qi σ δ H A c s _ ?_)
      rw [e]
      intro v H1 t1 r1
      obtain ⟨a, us, rfl, h1, h2⟩ := dp_tup r1
      have ha := h2.len
      refine ⟨a, rfl, ⟨us, sqT_same mask_le h1⟩, fun Dl hD => ?_⟩
      refine lc_tup (K := X.K) (a := a) (xs := us) (fun i H' => CS X.K A (wipe σ vs0) (wipeD δ vs0) H1 Dl j mt me tot (ds.drop i) i H') ⟨⟨[], [], upd_same, .nil, Nat.zero_le _, tot, e2, rfl⟩, same_upd hD⟩ (fun i H' _ cs => sqT_same cs.same (sqT_same mask_le h1)) (fun i x H' hx cs => ?_) (fun H' cs => ?_)
      · obtain ⟨dx, hd, r⟩ := h2.get2 hx
        exact comp_step (Y := Y) (c.mono t1) hD (s.mono t1) hz (hw σ) hd (fun B hB => Dp.same (fun b o q => by
          rw [mask_some] at q ⊢
          refine ⟨fun z => (hB b z).elim q.1 fun z => ?_, cs.same _ _ q.2⟩
          rw [z, hD] at q; cases q.2) r) cs
      · have e0 : ds.drop us.length = [] := by rw [ha, List.drop_length]
        rw [e0] at cs
        exact comp_fin t1 hD cs w
    | _ => exact w.elim
section
variable {elt tg it : Expr} {ifs : List Expr} {scope : Scope} {own : List (Str × Nat)} {pos : Pos} {j : Nat} {mi me : DS → R D} {mt : DS → R Bool}
theorem dn_comp (hc : X.calm = true) (hN : X.N.Nodup) (hi : DE X Y it mi) (ok : BlkOk X.N X.env.scope scope own)
    (hg : ∀ (s : Shared) (H : Hp) (C : Addr) (cl : List (Str × Addr)) (fp : List Addr), PG (X.blk s H scope (compEnvC scope cl C X.env) fp) tg (gName j)) (ht : tBlk X Y scope ifs mt) (he : dBlk X Y scope elt me)
    (hw : ∀ σ x, wipe ((wipe σ (own.map (·.2))).set j (some x)) (own.map (·.2)) = wipe σ (own.map (·.2))) (hs : ∀ x, foldedSetIterable it X.env x = pure x := by intro _; rfl) :
    DN X Y (.ListComp elt [⟨tg, it, ifs, 0⟩] scope pos) (mComp (own.map (·.2)) j mi mt me) := by
  obtain ⟨ti, pi, qi⟩ := hi
  exact ⟨_, pe_lc (tt := canT X.K (noX Y) mt) (te := canE X.K (noX Y) me) hc hN (PI.orD (pi_list pi) (pi_tup pi)) ok hg (fun s H C cl fp => (ht s H C cl fp).can) (fun s H C cl fp => (he s H C cl fp).can) hs, comp_sem qi hw⟩
/-- name = [elt for x in e if ..], on one line, the name a local -/
theorem dn_compS {i : Nat} {y : Str} {py spos : Pos} (hy : X.N[i]? = some y) (hyl : X.env.scope.names.lookup y = some .local) (hsw : swapsWith (.ListComp elt [⟨tg, it, ifs, 0⟩] scope pos) (some (.Name y py)) spos.line X.env = pure true)
    (hc : X.calm = true) (hN : X.N.Nodup) (hi : DE X Y it mi) (ok : BlkOk X.N X.env.scope scope own)
    (hg : ∀ (s : Shared) (H : Hp) (C : Addr) (cl : List (Str × Addr)) (fp : List Addr), PG (X.blk s H scope (compEnvC scope cl C X.env) fp) tg (gName j)) (ht : tBlk X Y scope ifs mt) (he : dBlk X Y scope elt me)
    (hw : ∀ σ x, wipe ((wipe σ (own.map (·.2))).set j (some x)) (own.map (·.2)) = wipe σ (own.map (·.2))) (hs : ∀ x, foldedSetIterable it X.env x = pure x := by intro _; rfl) :
    ∃ t, PS X (.Assign [.Name y py] (.ListComp elt [⟨tg, it, ifs, 0⟩] scope pos) spos) (tAsg t (gName i)) ∧ NSem X Y t (mComp (own.map (·.2)) j mi mt me) := by
  obtain ⟨ti, pi, qi⟩ := hi
  exact ⟨_, ps_setLc (tt := canT X.K (noX Y) mt) (te := canE X.K (noX Y) me) hc hN hy hyl hsw (PI.orD (pi_list pi) (pi_tup pi)) ok hg (fun s H C cl fp => (ht s H C cl fp).can) (fun s H C cl fp => (he s H C cl fp).can) hs, comp_sem qi hw⟩
end
def mCompR (vs : List Nat) (j : Nat) (ms : DS → R (List D)) (mt : DS → R Bool) (me : DS → R D) : DS → R (List D) := fun δ => (ms δ).bind fun ds => match ds with
  | [.int n] => R.when (decide (-(2 ^ 62) ≤ n ∧ n.toNat < sizeLine)) (compM j mt me (wipeD δ vs) ((List.range n.toNat).map fun i => .int (i : Nat)))
  | _ => .bad
theorem compR_sem {vs0 : List Nat} {j : Nat} {m1 me : DS → R D} {mt : DS → R Bool} {ti : TA} (qi : ∀ (σ : St) (δ : DS) (H : Hp) (A : Addr → Prop), Cov A H → SR X.K A σ δ H → ∀ Q : List V → Hp → Prop, WpA X.K (Y.at σ) A H (mCons m1 mNil δ) Q → ti σ H Q)
    (hw : ∀ σ x, wipe ((wipe σ vs0).set j (some x)) vs0 = wipe σ vs0) : NSem X Y (tLc (iRng1 ti) (gName j) (canT X.K (noX Y) mt) (canE X.K (noX Y) me) vs0) (mCompR vs0 j (mCons m1 mNil) mt me) := fun σ δ H A c s Q w => by
  refine qi σ δ H A c s _ ?_
  unfold mCompR at w
  cases e : mCons m1 mNil δ with
  | bad => rw [e] at w; exact w.elim
  | ex k => rw [e] at w; exact w
  | ok ds =>
    rw [e] at w
    dsimp only [R.bind] at w
    refine fun vs H1 t1 r1 => ?_
    split at w
    · rename_i n
      obtain ⟨v, rfl, r2⟩ := dpAll1 r1
      cases r2
      obtain ⟨hb, w⟩ := WpL.when w
      obtain ⟨b1, b2⟩ := of_decide_eq_true hb
      refine ⟨n, rfl, b1, ?_, fun Dl hD => ?_⟩
      · have : (sizeLine : Nat) < 2 ^ 62 := by decide
        omega
      have hL : ((List.range n.toNat).map fun i : Nat => (PyData.int (i : Nat) : D)).length = n.toNat := by rw [List.length_map, List.length_range]
      generalize hds : ((List.range n.toNat).map fun i : Nat => (PyData.int (i : Nat) : D)) = ds at w hL
      have nox : ∀ xs, ∀ n, compM j mt me (wipeD δ vs0) xs ≠ .ex n := fun xs => by
        induction xs with
        | nil => intro n q; unfold compM at q; cases q
        | cons x xs ih =>
          intro n q
          unfold compM at q
          split at q
          · split at q
            · rename_i y _
              cases e3 : compM j mt me (wipeD δ vs0) xs with
              | bad => rw [e3] at q; cases q
              | ex k => exact ih k e3
              | ok z => rw [e3] at q; cases q
            · cases q
          · exact ih n q
          · cases q
      cases e2 : compM j mt me (wipeD δ vs0) ds with
      | bad => rw [e2] at w; exact w.elim
      | ex k => exact absurd e2 (nox ds k)
      | ok tot =>
        rw [e2] at w
        refine lc_range (lo := 0) (n := n.toNat) (fun i H' => CS X.K A (wipe σ vs0) (wipeD δ vs0) H1 Dl j mt me tot (ds.drop i) i H') ⟨⟨[], [], upd_same, .nil, Nat.zero_le _, tot, e2, rfl⟩, same_upd hD⟩ (fun i H' hx cs => ?_) (fun H' cs => ?_)
        · have hd : ds[i]? = some (.int (i : Nat)) := by rw [← hds]; exact range_at hx
          rw [Int.zero_add]
          exact comp_step (Y := Y) (c.mono t1) hD (s.mono t1) (by omega) (hw σ) hd (fun B hB => .int _) cs
        · have e0 : ds.drop n.toNat = [] := List.drop_of_length_le (by omega)
          rw [e0] at cs
          exact comp_fin t1 hD cs w
    · exact w.elim
section
variable {elt tg a : Expr} {ifs : List Expr} {scope : Scope} {own : List (Str × Nat)} {p pos pos' : Pos} {j : Nat} {m1 me : DS → R D} {mt : DS → R Bool}
theorem dn_compR (hc : X.calm = true) (hN : X.N.Nodup) (hgl : Gl X "range") (hm : X.mg "range" = none) (ha : DE X Y a m1) (ok : BlkOk X.N X.env.scope scope own)
    (hg : ∀ (s : Shared) (H : Hp) (C : Addr) (cl : List (Str × Addr)) (fp : List Addr), PG (X.blk s H scope (compEnvC scope cl C X.env) fp) tg (gName j)) (ht : tBlk X Y scope ifs mt) (he : dBlk X Y scope elt me)
    (hw : ∀ σ x, wipe ((wipe σ (own.map (·.2))).set j (some x)) (own.map (·.2)) = wipe σ (own.map (·.2))) (hs1 : starEach [a] X.env = [(false, eval a X.env)] := by rfl) (hs : ∀ x, foldedSetIterable (.Call (.Name "range" p) [a] [] pos') X.env x = pure x := by intro _; rfl) :
    DN X Y (.ListComp elt [⟨tg, .Call (.Name "range" p) [a] [] pos', ifs, 0⟩] scope pos) (mCompR (own.map (·.2)) j (mCons m1 mNil) mt me) := by
  obtain ⟨ti, pi, qi⟩ := da_cons ha da_nil hs1
  exact ⟨_, pe_lc (tt := canT X.K (noX Y) mt) (te := canE X.K (noX Y) me) hc hN (pi_range1 hgl hm pi hs1) ok hg (fun s H C cl fp => (ht s H C cl fp).can) (fun s H C cl fp => (he s H C cl fp).can) hs, compR_sem qi hw⟩
theorem dn_compRS {i : Nat} {y : Str} {py spos : Pos} (hy : X.N[i]? = some y) (hyl : X.env.scope.names.lookup y = some .local) (hsw : swapsWith (.ListComp elt [⟨tg, .Call (.Name "range" p) [a] [] pos', ifs, 0⟩] scope pos) (some (.Name y py)) spos.line X.env = pure true)
    (hc : X.calm = true) (hN : X.N.Nodup) (hgl : Gl X "range") (hm : X.mg "range" = none) (ha : DE X Y a m1) (ok : BlkOk X.N X.env.scope scope own)
    (hg : ∀ (s : Shared) (H : Hp) (C : Addr) (cl : List (Str × Addr)) (fp : List Addr), PG (X.blk s H scope (compEnvC scope cl C X.env) fp) tg (gName j)) (ht : tBlk X Y scope ifs mt) (he : dBlk X Y scope elt me)
    (hw : ∀ σ x, wipe ((wipe σ (own.map (·.2))).set j (some x)) (own.map (·.2)) = wipe σ (own.map (·.2))) (hs1 : starEach [a] X.env = [(false, eval a X.env)] := by rfl) (hs : ∀ x, foldedSetIterable (.Call (.Name "range" p) [a] [] pos') X.env x = pure x := by intro _; rfl) :
    ∃ t, PS X (.Assign [.Name y py] (.ListComp elt [⟨tg, .Call (.Name "range" p) [a] [] pos', ifs, 0⟩] scope pos) spos) (tAsg t (gName i)) ∧ NSem X Y t (mCompR (own.map (·.2)) j (mCons m1 mNil) mt me) := by
  obtain ⟨ti, pi, qi⟩ := da_cons ha da_nil hs1
  exact ⟨_, ps_setLc (tt := canT X.K (noX Y) mt) (te := canE X.K (noX Y) me) hc hN hy hyl hsw (pi_range1 hgl hm pi hs1) ok hg (fun s H C cl fp => (ht s H C cl fp).can) (fun s H C cl fp => (he s H C cl fp).can) hs, compR_sem qi hw⟩
end
end
end L2
namespace L2
open PySem PySem.Spec PyProof.Rows
/-! ## a def's promise over data -/
def SpD (K : PySem.W.Frag) (cv : Nat → Value) (f : List D → R D) : Sp := fun vs H Q E => ∃ A ds, Cov A H ∧ DpAll K (mask A H) vs ds ∧ WpE K ⟨cv, E⟩ A H (f ds) Q
/-- one that hands back a new list -/
def SpN (K : PySem.W.Frag) (cv : Nat → Value) (f : List D → R (List D)) : Sp := fun vs H Q E => ∃ A ds, Cov A H ∧ DpAll K (mask A H) vs ds ∧ WpL K ⟨cv, E⟩ A H (f ds) Q
/-- as many arguments -/
def chk {α : Type} (n : Nat) (f : List D → R α) : List D → R α := fun ds => R.when (decide (ds.length = n)) (f ds)
section
variable {X : Cx} {Y : Wy} {CX : CXT} {k : Nat} {f : Addr} {fd : FuncData} {ps : List Str} {x : Str} {p pos : Pos} {e : Expr} {es : List Expr} {ms : DS → R (List D)} {g : List D → R D} {gn : List D → R (List D)}
theorem de_call (F : FnOk X.prog X.w X.K X.mg X.base CX k f fd ps (SpD X.K Y.cv g)) (hr : Room k X.A) (hg : Gl X x) (hm : X.mg x = some (.ref f)) (hk : PySem.W.keepIn X.K (.ref f) = true) (hb : Binds X.K fd ps []) (hx : ∀ σ, PassesAt CX X σ (Y.E σ)) (ha : DA X Y (e :: es) ms)
    (hdb : (x == ("__debug__" : Str)) = false := by decide) (he : starEach (e :: es) X.env = (false, eval e X.env) :: starEach es X.env := by rfl) (hpl : (backTo pos (starEach es X.env)).any (·.1) = false := by rfl) : DE X Y (.Call (.Name x p) (e :: es) [] pos) (mCall g ms) := by
  obtain ⟨t, pa, q⟩ := ha
  refine ⟨_, pe_callSD F hr hg hm hk hb .nil hx pa hdb he hpl, fun σ δ H A c s Q w => da_seq (Y := Y) q c s w fun ds vs H1 t1 r1 w1 => ?_⟩
  exact ⟨A, ds, c.mono t1, by rw [List.append_nil]; exact r1, w1⟩
theorem dn_call (F : FnOk X.prog X.w X.K X.mg X.base CX k f fd ps (SpN X.K Y.cv gn)) (hr : Room k X.A) (hg : Gl X x) (hm : X.mg x = some (.ref f)) (hk : PySem.W.keepIn X.K (.ref f) = true) (hb : Binds X.K fd ps []) (hx : ∀ σ, PassesAt CX X σ (Y.E σ)) (ha : DA X Y (e :: es) ms)
    (hdb : (x == ("__debug__" : Str)) = false := by decide) (he : starEach (e :: es) X.env = (false, eval e X.env) :: starEach es X.env := by rfl) (hpl : (backTo pos (starEach es X.env)).any (·.1) = false := by rfl) : DN X Y (.Call (.Name x p) (e :: es) [] pos) (mCallN gn ms) := by
  obtain ⟨t, pa, q⟩ := ha
  refine ⟨_, pe_callSD F hr hg hm hk hb .nil hx pa hdb he hpl, fun σ δ H A c s Q w => da_seqN (Y := Y) q c s w fun ds vs H1 t1 r1 w1 => ?_⟩
  exact ⟨A, ds, c.mono t1, by rw [List.append_nil]; exact r1, w1⟩
end
def fin : R Out → R D
  | .ok (.nx _) => .ok .none
  | .ok (.rt d) => .ok d
  | .ok (.rl ds) => .ok (.list ds)
  | .ok (.ex n _) => .ex n
  | _ => .bad
def finL : R Out → R (List D)
  | .ok (.rl ds) => .ok ds
  | .ok (.ex n _) => .ex n
  | _ => .bad
def startD (N : List Str) (ds : List D) : DS := ds.map some ++ List.replicate (N.length - ds.length) none
section
variable {P : Program} {w : World} {K : PySem.W.Frag} {mg : Str → Option Value} {base : Heap} {x qual : Str} {st : Stmt} {f : Addr} {fd : FuncData} {N ps : List Str} {k : Nat}
theorem ss_start {A : Addr → Prop} {O : List Nat} {H : Hp} {vs : List V} {ds : List D} (c : Cov A H) (r : DpAll K (mask A H) vs ds) (hO : ∀ i ∈ O, ds.length ≤ i) : SS K A O [] H (start N vs) (startD N ds) H := by
  have hl := r.len
  have get : ∀ (i : Nat) (d : D), (startD N ds)[i]? = some (some d) → ds[i]? = some d := fun i d e => by
    unfold startD at e
    by_cases h : i < ds.length
    · rw [List.getElem?_append_left (by simpa using h), List.getElem?_map] at e
      cases q : ds[i]? with
      | none => rw [q] at e; cases e
      | some y => rw [q] at e; cases e; rfl
    · rw [List.getElem?_append_right (by simpa using h)] at e
      rw [List.getElem?_replicate] at e
      split at e <;> cases e
  have noO : ∀ i ∈ O, ∀ d, (startD N ds)[i]? ≠ some (some d) := fun i ho d e => by
    have h := (List.getElem?_eq_some_iff.mp (get i d e)).1
    have := hO i ho
    omega
  have ae : (fun a => A a ∨ ∃ j ∈ O, (∃ d, (startD N ds)[j]? = some (some d)) ∧ a = (fun _ => 0 : Nat → Addr) j) = A := by
    funext a
    exact propext ⟨fun q => q.elim id fun ⟨j, jo, ⟨d, jd⟩, _⟩ => absurd jd (noO j jo d), .inl⟩
  refine ⟨⟨fun _ => 0, fun i d ho e => ?_, fun i d ho e => absurd e (noO i ho d), fun i j ho _ ⟨d, q⟩ => absurd q (noO i ho d), fun p hp => by cases hp⟩, ?_, Same.refl H, c⟩
  · rw [ae]
    obtain ⟨v, q1, q2⟩ := r.get (get i d e)
    refine ⟨v, ?_, q2⟩
    unfold start
    have h : i < vs.length := (List.getElem?_eq_some_iff.mp q1).1
    rw [List.getElem?_append_left (by simpa using h), List.getElem?_map, q1]; rfl
  · unfold start startD
    simp only [List.length_append, List.length_map, List.length_replicate, hl]
/-- a def by its body over data -/
theorem fn_D {cv : Nat → Value} {m : DS → R Out} (O : List Nat) (F : Fun K x qual st f fd) (S : FnScope N ps (defScope st)) (hO : ∀ i ∈ O, ps.length ≤ i)
    (hbody : ∀ (cdv : Value) (A : Around) (outer : List Env) (s : Shared) (H : Hp) (E : XK), Room k (A.deeper (envOfC qual (defScope st) s.heap.objs.size f cdv)) →
      DSs (cxOf (L2.CX P w) P w K mg base N qual (defScope st) f cdv A outer s H E) ⟨cv, fun _ => E⟩ O (defBody st) m) :
    FnOk P w K mg base (L2.CX P w) (k + 1) f fd ps (SpD K cv (chk ps.length fun ds => fin (m (startD N ds)))) := by
  refine F.okX S (fun vs H Q E h => ?_) (fun cdv A outer s H vs Q E hr h => ?_)
  · obtain ⟨A, ds, c, r, w⟩ := h
    obtain ⟨e, _⟩ := WpE.when w
    rw [r.len]
    exact of_decide_eq_true e
  · obtain ⟨A0, ds, c, r, w'⟩ := h
    obtain ⟨e, w'⟩ := WpE.when w'
    have hl : ds.length = ps.length := of_decide_eq_true e
    obtain ⟨t, p, q⟩ := hbody cdv A outer s H E hr
    refine ⟨t, p, q A0 [] H (start N vs) (startD N ds) H _ (ss_start c r fun i ho => by rw [hl]; exact hO i ho) ?_⟩
    dsimp only at w'
    cases em : m (startD N ds) with
    | bad => rw [em] at w'; exact w'
    | ex n => rw [em] at w'; exact w'.elim
    | ok o =>
      rw [em] at w'
      cases o with
      | nx δ => exact fun σ H' s' => w' _ H' s'.same .non
      | rt d => exact fun v H' t r => w' v H' t r
      | rl ds => exact fun p vs H' t np hp r => w' _ H' t (.lst (SqL.of (mask_some.mpr ⟨c.new np, hp⟩)) (DpAll.same (mask_sub fun a h => .inl h) r))
      | bk δ => exact w'.elim
      | ct δ => exact w'.elim
      | ex n δ => exact fun σ H' s' => w' H' s'.same
theorem fn_N {cv : Nat → Value} {m : DS → R Out} (O : List Nat) (F : Fun K x qual st f fd) (S : FnScope N ps (defScope st)) (hO : ∀ i ∈ O, ps.length ≤ i)
    (hbody : ∀ (cdv : Value) (A : Around) (outer : List Env) (s : Shared) (H : Hp) (E : XK), Room k (A.deeper (envOfC qual (defScope st) s.heap.objs.size f cdv)) →
      DSs (cxOf (L2.CX P w) P w K mg base N qual (defScope st) f cdv A outer s H E) ⟨cv, fun _ => E⟩ O (defBody st) m) :
    FnOk P w K mg base (L2.CX P w) (k + 1) f fd ps (SpN K cv (chk ps.length fun ds => finL (m (startD N ds)))) := by
  refine F.okX S (fun vs H Q E h => ?_) (fun cdv A outer s H vs Q E hr h => ?_)
  · obtain ⟨A, ds, c, r, w⟩ := h
    obtain ⟨e, _⟩ := WpL.when w
    rw [r.len]
    exact of_decide_eq_true e
  · obtain ⟨A0, ds, c, r, w'⟩ := h
    obtain ⟨e, w'⟩ := WpL.when w'
    have hl : ds.length = ps.length := of_decide_eq_true e
    obtain ⟨t, p, q⟩ := hbody cdv A outer s H E hr
    refine ⟨t, p, q A0 [] H (start N vs) (startD N ds) H _ (ss_start c r fun i ho => by rw [hl]; exact hO i ho) ?_⟩
    dsimp only at w'
    cases em : m (startD N ds) with
    | bad => rw [em] at w'; exact w'
    | ex n => rw [em] at w'; exact w'.elim
    | ok o =>
      rw [em] at w'
      cases o with
      | rl ds => exact fun p vs H' t np hp r => w' _ vs H' t np hp r
      | ex n δ => exact fun σ H' s' => w' H' s'.same
      | _ => exact w'.elim
end
/-! ## contexts of a def's body -/
section
variable {X : Cx} {Y : Wy} {E : XK}
theorem pass_def (hs : X.stack = X.env :: X.outer) (hf : X.env.frame = some X.env.locals) (hex : X.ex = []) {E₁ : Value → Shared → Prop}
    (hx : X.xe = fun e s' => wpAny (model X.prog X.w) X.A (leaving X.env e) (fun _ s'' => L2.CX X.prog X.w X.outer X.H_0 X.s_0 E e s'') E₁ s') : ∀ σ, PassesAt (L2.CX X.prog X.w) X σ E := fun σ pins H s e s' I h =>
  passes_call (takes_of hs hf hex hx) (fun _ _ _ _ h => h) pins σ H s e s' I h
theorem pass_blk (hx : X.xe = fun _ _ => False) : ∀ σ, PassesAt (L2.CX X.prog X.w) X σ E0 := fun σ pins H s e s' I h => by
  obtain ⟨_, _, _, _, _, _, _, _, _, _, _, _, z⟩ := h
  exact z.elim
/-! ## raise X(..) -/
def mRaise (n : Nat) (ms : DS → R (List D)) : DS → R Out := fun δ => (ms δ).run δ fun ds => R.when (szOk ds.length) (.ok (.ex n δ))
end
end L2
namespace L2
open PySem PySem.Spec PyProof.Rows
section
variable {X : Cx} {Y : Wy} {O : List Nat}
/-! ## raise X(..) -/
def Wy.wx (Y : Wy) : WX := fun cls d σ H => Y.E σ cls d H
def mRaiseD (n : Nat) (ms : DS → R (List D)) : DS → R Out := fun δ => (ms δ).run δ fun ds => R.when (szOk ds.length) (.ok (.ex n δ))
theorem ds_raise {C : Addr} {bmB : List Value} {B newId initId : String} {x : Str} {p pos pos' : Pos} {e : Expr} {es : List Expr} {ms : DS → R (List D)} (n : Nat) (hc : X.calm = true) (tk : Takes X Y.wx) (F : ExcBaseFacts B newId initId bmB) (q : PySem.W.excIn X.K C bmB newId = true) (gC : X.mg x = some (.ref C))
    (kC : PySem.W.keepIn X.K (.ref C) = true) (r : Raises X (.ref C)) (hn : Y.cv n = .ref C) (hg : Gl X x) (ha : DA X Y (e :: es) ms) (hdb : (x == ("__debug__" : Str)) = false := by decide)
    (he : starEach (e :: es) X.env = (false, eval e X.env) :: starEach es X.env := by rfl) (hpl : (backTo pos (starEach es X.env)).any (·.1) = false := by rfl) : DSt X Y O (.Raise (some (.Call (.Name x p) (e :: es) [] pos)) none pos') (mRaiseD n ms) := by
  obtain ⟨t, pa, qa⟩ := ha
  refine ⟨_, ps_raise hc tk (pmk_ownA F q gC kC r hg pa hdb he hpl), fun A0 T H0 σ δ H Dn s w => qa σ δ H A0 s.covH s.read _ ?_⟩
  unfold mRaiseD at w
  cases e : ms δ with
  | bad => rw [e] at w; exact w
  | ex k => rw [e] at w; exact fun H' t => w σ H' (s.keep t)
  | ok ds =>
    rw [e] at w
    obtain ⟨hb, w⟩ := R.when_ok (fun r => WpS X.K Y A0 O T H0 r Dn) w id
    exact fun vs H1 t1 r1 => ⟨by rw [r1.len]; exact of_decide_eq_true hb, by rw [← hn]; exact w σ H1 (s.keep t1)⟩
/-! ## try: .. except A: .. except B: .. -/
def canS (K : PySem.W.Frag) (Y : Wy) (O : List Nat) (m : DS → R Out) : TS := fun Dn σ H => ∃ A0 T H0 δ, SS K A0 O T H0 σ δ H ∧ WpS K Y A0 O T H0 (m δ) Dn
theorem DSs.can {b : List Stmt} {m : DS → R Out} (h : DSs X Y O b m) : PSs X b (canS X.K Y O m) := by
  obtain ⟨t, p, q⟩ := h
  exact ⟨fun pins s σ H Dn I ⟨A0, T, H0, δ, ss, w⟩ => p.run pins s σ H Dn I (q A0 T H0 σ δ H Dn ss w)⟩
def noEx : R Out → R Out
  | .ok (.ex _ _) => .bad
  | r => r
abbrev Hd := (Nat → Option Bool) × (DS → R Out)
def hand : List Hd → Nat → DS → R Out
  | [], n, δ => .ok (.ex n δ)
  | (p, h) :: r, n, δ => match p n with
    | some true => noEx (h δ)
    | some false => hand r n δ
    | none => .bad
def mTry (m : DS → R Out) (hs : List Hd) : DS → R Out := fun δ => match m δ with
  | .ok (.ex n δ') => hand hs n δ'
  | r => r
def inTry (Y : Wy) (W : WX) : Wy := ⟨Y.cv, fun σ cls d H => W cls d σ H⟩
inductive HdsD (X : Cx) (Y : Wy) (O : List Nat) : List ExceptHandler → List (Value × (Addr → Value → Option Addr → TS)) → List Hd → Prop
  | nil : HdsD X Y O [] [] []
  | cons {x : Str} {c : Value} {p : Nat → Option Bool} {m : DS → R Out} {b₀ : Stmt} {suite : List Stmt} {np pos' : Pos} {hds : List ExceptHandler} {l : List (Value × (Addr → Value → Option Addr → TS))} {hs : List Hd} (hc : Names X x c) (hp : ∀ n b, p n = some b → PySem.W.exmOne X.K (Y.cv n) c = some b)
      (hsu : ∀ (a : Addr) (oe : Obj) (pn : List (Addr × Obj)), DSs (X.suite a ((a, oe) :: pn)) (noX Y) O (b₀ :: suite) m) (r : HdsD X Y O hds l hs) :
      HdsD X Y O (.ExceptHandler (some (.Name x np)) none (b₀ :: suite) pos' :: hds) ((c, fun _ _ _ => canS X.K (noX Y) O m) :: l) ((p, m) :: hs)
theorem HdsD.ok {hds : List ExceptHandler} {l : List (Value × (Addr → Value → Option Addr → TS))} {hs : List Hd} (h : HdsD X Y O hds l hs) : HdsOk X hds l := by
  induction h with
  | nil => exact .nil
  | cons hc hp hsu r ih => exact .cons hc (fun a oe cls d pn _ _ => (hsu a oe pn).can) ih
theorem WpS.calm {K : PySem.W.Frag} {A0 : Addr → Prop} {T : List Tm} {H0 : Hp} {r : R Out} {Dn : Ends} (w : WpS K Y A0 O T H0 (noEx r) Dn) : WpS K (noX Y) A0 O T H0 r Dn := by
  cases r with
  | bad => exact w
  | ex n => exact w
  | ok o => cases o <;> first | exact w | exact w.elim
theorem HdsD.wish {A0 : Addr → Prop} {T : List Tm} {H0 H' : Hp} {Dn : Ends} {σ' : St} {δ' : DS} {n : Nat} {hds : List ExceptHandler} {l : List (Value × (Addr → Value → Option Addr → TS))} {hs : List Hd} (h : HdsD X Y O hds l hs) (w : WpS X.K Y A0 O T H0 (hand hs n δ') Dn)
    (s : SS X.K A0 O T H0 σ' δ' H') : wMany X.K Y.wx Dn l (Y.cv n) none σ' H' := by
  induction h with
  | nil => exact w σ' H' s
  | @cons x c p m b₀ suite np pos' hds l hs hc hp hsu r ih =>
    unfold hand at w
    cases e : p n with
    | none => rw [e] at w; exact w.elim
    | some b =>
      rw [e] at w
      refine ⟨b, hp n b e, fun hb a _ => ?_, fun hb => ?_⟩
      · subst hb
        exact ⟨A0, T, H0, δ', s, WpS.calm w⟩
      · subst hb
        exact ih w
theorem ds_try {body : List Stmt} {h₀ : ExceptHandler} {hds : List ExceptHandler} {l : List (Value × (Addr → Value → Option Addr → TS))} {hs : List Hd} {m : DS → R Out} {pos : Pos} (h1 : X.stack = X.env :: X.outer) (hf : X.env.frame = some X.env.locals) (tk : Takes X Y.wx)
    (hb : ∀ (W : WX) (pn : List (Addr × Obj)) (xe : Value → Shared → Prop), Takes (X.tr pn xe) W → PassesOwn (model X.prog X.w) X.A X.env xe → DSs (X.tr pn xe) (inTry Y W) O body m) (hh : HdsD X Y O (h₀ :: hds) l hs) :
    DSt X Y O (.Try body (h₀ :: hds) [] [] pos) (mTry m hs) := by
  refine ⟨_, ps_try_many (tb := fun W => canS X.K (inTry Y W) O m) h1 hf tk (fun W pn xe t p => (hb W pn xe t p).can) hh.ok, fun A0 T H0 σ δ H Dn s w => ⟨A0, T, H0, δ, s, ?_⟩⟩
  unfold mTry at w
  cases e : m δ with
  | bad => rw [e] at w; exact w
  | ex k => rw [e] at w; exact w
  | ok o =>
    rw [e] at w
    cases o with
    | ex n δ' => exact fun σ' H' s' => hh.wish w s'
    | _ => exact w
end
end L2
namespace PySem
/-! ## sum of a list of bools -/
section
variable {prog : Program} {w : World} {A : Around} {R : Result → Shared → Prop} {It : Addr} {fq wr : List Addr} {n : Nat} {P : Nat → Value → Prop} {St : Nat → Heap → Prop}
theorem dl_sum_turns (W : Walks prog w A.in1 It fq wr n P St) (num : Nat → Int) (hb : ∀ i v, P i v → ∃ b : Bool, v = .bool b ∧ num i = (if b = true then (1 : Int) else 0)) (G : Addr) (hG : G ∉ fq) :
    ∀ (k i : Nat) (s : Shared) (tA : Tok) (c : Nat) (stg : Int), (stg = 0 ∨ stg = 2) → n - i = k → i ≤ n → St i s.heap → s.heap.get? G = some { cls := .type "list", dict := none, data := .seq #[.int (preSum num i) tA] c, slots := #[] } →
    (∀ g tk t, (∀ b o, b ∉ wr → b ≠ G → s.heap.get? b = some o → g.get? b = some o) → R (.ok (.ret (.int (preSum num n) t))) { s with heap := g, toks := tk }) →
    codeAny (model prog w) A (.builtin "sum.loop" ⟨[.ref It, .ref G, rawInt stg, rawInt 0], []⟩) R s := by
  have hGw : G ∉ wr := fun h => hG (W.sub _ h)
  intro k
  induction k with
  | zero =>
    intro i s tA c stg hstg hk hi hs hg hR
    have hn : i = n := by omega
    subst hn
    refine codeAny_builtin F.entry_sum_loop ?_
    rw [Around.under_plainId F.plain_sum_loop _]
    show wpAny _ A.in1 (seqItems? (.ref G) >>= _) _ _ s
    refine wpAny_bind (wpAny_seqItems hg rfl ?_)
    show wpAny _ A.in1 (tryCatch (pyNext (.ref It)) _ >>= _) _ _ s
    refine wpAny_bind (wpAny_tryCatch (W.done s _ _ hs fun g tk q => ?_))
    exact wpAny_pure (hR g tk tA fun b o h1 _ e => q b o h1 e)
  | succ k ih =>
    intro i s tA c stg hstg hk hi hs hg hR
    have lt : i < n := by omega
    refine codeAny_builtin F.entry_sum_loop ?_
    rw [Around.under_plainId F.plain_sum_loop _]
    show wpAny _ A.in1 (seqItems? (.ref G) >>= _) _ _ s
    refine wpAny_bind (wpAny_seqItems hg rfl ?_)
    show wpAny _ A.in1 (tryCatch (pyNext (.ref It)) _ >>= _) _ _ s
    refine wpAny_bind (wpAny_tryCatch (W.item i s _ _ lt hs fun v g tk hP hs' q => ?_))
    obtain ⟨b, rfl, hv⟩ := hb i v hP
    have hg' := q G _ hGw hg
    rcases hstg with rfl | rfl
    · show wpAny _ A.in1 (if (_ : Bool) = true then (mkInt (preSum num i + (if b = true then (1 : Int) else 0)) >>= _) else _) _ _ _
      rw [← hv]
      split
      · refine wpAny_bind (wpAny_mkInt ?_)
        show wpAny _ A.in1 (updateSeq G (fun _ => #[.int (preSum num i + num i) tk]) >>= _) _ _ _
        refine wpAny_bind ?_
        refine wpAny_updateSeq hg' rfl (wpAny_pure ⟨plainId_quiet F.plain_sum_loop _, ih (i + 1) _ tk _ 0 (Or.inl rfl) (by omega) lt (W.frame _ _ _ hs' fun b hb o e => ?_) (Heap.get?_update_self _ hg' rfl) fun g2 tk2 t2 q2 => ?_⟩)
        · exact (Heap.get?_update_other _ _ (fun h : G = b => hG (by rw [h]; exact hb))).trans e
        · exact hR g2 tk2 t2 fun b o h1 h2 e => q2 b o h1 h2 ((Heap.get?_update_other _ _ (Ne.symm h2)).trans (q b o h1 e))
      · refine wpAny_bind (wpAny_rule ?_)
        refine wpAny_bind (wpAny_attempt (wpAny_holding (add_int_bool ?_)))
        rw [← hv]
        show wpAny _ A.in1 (updateSeq G (fun _ => #[.int (preSum num i + num i) tk]) >>= _) _ _ _
        refine wpAny_bind ?_
        refine wpAny_updateSeq hg' rfl ?_
        have hg2 := Heap.get?_update_self (Obj.mapSeq fun _ => #[Value.int (preSum num i + num i) tk]) hg' rfl
        refine wpAny_bind (wpAny_letGo ?_)
        refine wpAny_bind ?_
        refine wpAny_updateSeq hg2 rfl (wpAny_pure ⟨plainId_quiet F.plain_sum_loop _, ih (i + 1) _ tk _ 2 (Or.inr rfl) (by omega) lt (W.frame _ _ _ hs' fun b hb o e => ?_) (Heap.get?_update_self _ hg2 rfl) fun g2 tk2 t2 q2 => ?_⟩)
        · have n1 : ¬ G = b := fun h => hG (by rw [h]; exact hb)
          exact (Heap.get?_update_other _ _ n1).trans ((Heap.get?_update_other _ _ n1).trans e)
        · exact hR g2 tk2 t2 fun b o h1 h2 e => q2 b o h1 h2 ((Heap.get?_update_other _ _ (Ne.symm h2)).trans ((Heap.get?_update_other _ _ (Ne.symm h2)).trans (q b o h1 e)))
    · show wpAny _ A.in1 ((holding [Value.bool b] (binaryOp .Add (.int (preSum num i) tA) (.bool b))).attempt >>= _) _ _ _
      refine wpAny_bind (wpAny_attempt (wpAny_holding (add_int_bool ?_)))
      rw [← hv]
      show wpAny _ A.in1 (updateSeq G (fun _ => #[.int (preSum num i + num i) tk]) >>= _) _ _ _
      refine wpAny_bind ?_
      refine wpAny_updateSeq hg' rfl ?_
      have hg2 := Heap.get?_update_self (Obj.mapSeq fun _ => #[Value.int (preSum num i + num i) tk]) hg' rfl
      refine wpAny_bind (wpAny_letGo ?_)
      refine wpAny_bind ?_
      refine wpAny_updateSeq hg2 rfl (wpAny_pure ⟨plainId_quiet F.plain_sum_loop _, ih (i + 1) _ tk _ 2 (Or.inr rfl) (by omega) lt (W.frame _ _ _ hs' fun b hb o e => ?_) (Heap.get?_update_self _ hg2 rfl) fun g2 tk2 t2 q2 => ?_⟩)
      · have n1 : ¬ G = b := fun h => hG (by rw [h]; exact hb)
        exact (Heap.get?_update_other _ _ n1).trans ((Heap.get?_update_other _ _ n1).trans e)
      · exact hR g2 tk2 t2 fun b o h1 h2 e => q2 b o h1 h2 ((Heap.get?_update_other _ _ (Ne.symm h2)).trans ((Heap.get?_update_other _ _ (Ne.symm h2)).trans (q b o h1 e)))
end
section
variable {prog : Program} {w : World} {A : Around} {E : Value → Shared → Prop} {s : Shared}
theorem dl_sum_walk {x : Value} {Q : Value → Shared → Prop}
    (h : wpAny (model prog w) A.in1 (pyIter x) (fun it s₂ => ∃ I fp wr n P St num, it = .ref I ∧ Walks prog w A.in1 I fp wr n P St ∧ St 0 s₂.heap ∧ (∀ b ∈ fp, b < s₂.heap.objs.size) ∧
      (∀ i v, P i v → ∃ b : Bool, v = .bool b ∧ num i = (if b = true then (1 : Int) else 0)) ∧
      ∀ g tk t, (∀ b o, b ∉ wr → s₂.heap.get? b = some o → g.get? b = some o) → Q (.int (preSum num n) t) { s₂ with heap := g, toks := tk }) E s) :
    wpAny (model prog w) A (call (.builtin "sum") [x]) Q E s := by
  refine call_function_tree F.kind_sum F.plain_sum F.entry_sum (F.args_sum1 _) ?_
  unfold Builtin.«sum»
  simp only [List.length_cons, List.length_nil]
  rw [if_neg (by decide)]
  refine wpAny_bind (wpAny_of_eq (show Builtin.Builtins.bindParams "sum" ["start"] 0 { } = pure [none] from rfl) ?_)
  refine wpAny_bind (wpAny_mono h (fun it s₂ q => ?_) fun _ _ e => e)
  obtain ⟨I, fp, wr, n, P, St, num, rfl, W, hst, hfp, hv, hQ⟩ := q
  refine wpAny_bind (wpAny_mkInt ?_)
  refine wpAny_bind (wpAny_pure ?_)
  simp only [List.forIn_cons, List.forIn_nil]
  refine wpAny_bind (wpAny_bind (wpAny_bind (wpAny_isInstance (T := "int") (b := false) (typeIs_int _ _ _) sub_int_str ?_)))
  simp only [Bool.false_eq_true, if_false]
  refine wpAny_pure (wpAny_bind (wpAny_bind (wpAny_isInstance (T := "int") (b := false) (typeIs_int _ _ _) sub_int_bytes ?_)))
  simp only [Bool.false_eq_true, if_false]
  refine wpAny_pure (wpAny_bind (wpAny_bind (wpAny_isInstance (T := "int") (b := false) (typeIs_int _ _ _) sub_int_bytearray ?_)))
  simp only [Bool.false_eq_true, if_false]
  refine wpAny_pure (wpAny_pure ?_)
  refine wpAny_bind (wpAny_newObj_type ?_)
  have nf : s₂.heap.objs.size ∉ fp := fun hm => Nat.lt_irrefl _ (hfp _ hm)
  refine wpAny_pure ⟨plainId_quiet F.plain_sum_loop _, dl_sum_turns W num hv s₂.heap.objs.size nf n 0 _ s₂.toks 0 0 (Or.inl rfl) rfl (Nat.zero_le _) (W.frame _ _ _ hst fun b _ o e => Heap.get?_push_of_some _ e) (Heap.get?_push_size _ rfl) fun g tk t q => ?_⟩
  exact hQ g tk t fun b o h1 e => q b o h1 (Nat.ne_of_lt (Heap.lt_size e)) (Heap.get?_push_of_some _ e)
end
end PySem
namespace L2
open PySem PySem.Spec PyProof.Rows
section
variable {X : Cx} {Y : Wy}
def numB (b : Bool) : Int := if b = true then 1 else 0
theorem preSum_bools (bs : List Bool) : ∀ n, n ≤ bs.length → preSum (fun i => numB (bs.getD i false)) n = ((bs.take n).map numB).sum
  | 0, _ => rfl
  | n + 1, h => by
    have ih := preSum_bools bs n (by omega)
    show preSum (fun i => numB (bs.getD i false)) n + numB (bs.getD n false) = _
    rw [ih, List.take_add_one]
    have e : bs[n]? = some (bs.getD n false) := by rw [List.getD_eq_getElem?_getD, List.getElem?_eq_getElem (by omega)]; rfl
    rw [e, List.map_append, List.sum_append]
    simp
def rSumB (K : PySem.W.Frag) : List V → Hp → VK → Prop := fun vs H Q => ∃ (a : Addr) (bs : List Bool), vs = [V.ref a] ∧ SqL K H a (bs.map V.bl) ∧ Q (.int (bs.map numB).sum) H
theorem cr_sumB (hc : X.calm = true) : CallR X (.builtin "sum") (rSumB X.K) := by
  intro pins s σ H vs us Q I r h
  obtain ⟨a, bs, rfl, hs, q⟩ := h
  obtain ⟨its, rv, hl, _⟩ := I.list hs
  rw [Vals.ref1 r]
  have hb := rv.bls
  have hlen : its.length = bs.length := by rw [← rv.length, List.length_map]
  refine dl_sum_walk (iter_any hl.isList fun s₂ e2 st hne => ?_)
  subst e2
  refine ⟨_, _, _, _, _, _, fun i => numB (bs.getD i false), rfl, Walks.list (A := X.A.in1) (I.ok.hd hc) _ a hne its.toArray, st, fun b hb' => ?_, fun i v hv => ?_, fun g tk t hk => ?_⟩
  · rcases List.mem_cons.mp hb' with rfl | hb'
    · obtain ⟨_, e, _⟩ := st.1
      exact Heap.lt_size e
    · rcases List.mem_cons.mp hb' with rfl | hb'
      · obtain ⟨_, e, _⟩ := st.2
        exact Heap.lt_size e
      · cases hb'
  · have hv' : its[i]? = some v := by simpa using hv
    rw [hb, List.getElem?_map] at hv'
    obtain ⟨b, hb2, rfl⟩ := Option.map_eq_some_iff.mp hv'
    exact ⟨b, rfl, by show numB (bs.getD i false) = _; rw [List.getD_eq_getElem?_getD, hb2]; rfl⟩
  · refine ⟨.int _, H, I.kept fun b o eo => hk b o (fun hmem => ?_) (Heap.get?_push_of_some _ eo), ⟨t, ?_⟩, q⟩
    · rcases List.mem_cons.mp hmem with e1 | hmem
      · exact absurd (e1 ▸ Heap.lt_size eo) (Nat.lt_irrefl _)
      · cases hmem
    · have e := preSum_bools bs bs.length (Nat.le_refl _)
      rw [List.take_length] at e
      show Value.int (preSum (fun i => numB (bs.getD i false)) its.toArray.size) t = Value.int _ t
      rw [List.size_toArray, hlen, e]
def gSum : List D → R D := fun ds => match ds with
  | [.list xs] => match boolsD xs with
    | some bs => .ok (.int (bs.map numB).sum)
    | none => .bad
  | _ => .bad
theorem dc_sumB : DCall X (rSumB X.K) gSum := fun Y A H vs ds c hx Q w => by
  unfold gSum at w
  split at w
  · rename_i xs
    obtain ⟨v, rfl, h⟩ := dpAll1 hx
    obtain ⟨a, us, rfl, h1, h2⟩ := dp_list h
    cases e : boolsD xs with
    | none => rw [e] at w; exact w.elim
    | some bs =>
      rw [e] at w
      have q := dp_bools h2 e
      subst q
      exact ⟨a, bs, rfl, sqL_same mask_le h1, WpE.here (d := .int _) w (.int _)⟩
  · exact w.elim
end
end L2
namespace L2
open PySem PySem.Spec PyProof.Rows
/-- the def x stands at the top and keeps what g tells -/
structure Has (P : Program) (w : World) (K : PySem.W.Frag) (mg : Str → Option Value) (base : Heap) (cv : Nat → Value) (x : Str) (ps : List Str) (k : Nat) (g : List D → R D) : Prop where
  ex : ∃ f fd, FnOk P w K mg base (L2.CX P w) k f fd ps (SpD K cv g) ∧ mg x = some (.ref f) ∧ PySem.W.keepIn K (.ref f) = true ∧ Binds K fd ps []
structure HasN (P : Program) (w : World) (K : PySem.W.Frag) (mg : Str → Option Value) (base : Heap) (cv : Nat → Value) (x : Str) (ps : List Str) (k : Nat) (g : List D → R (List D)) : Prop where
  ex : ∃ f fd, FnOk P w K mg base (L2.CX P w) k f fd ps (SpN K cv g) ∧ mg x = some (.ref f) ∧ PySem.W.keepIn K (.ref f) = true ∧ Binds K fd ps []
section
variable {X : Cx} {Y : Wy} {k j : Nat} {ps : List Str} {x : Str} {p pos : Pos} {e : Expr} {es : List Expr} {ms : DS → R (List D)} {g : List D → R D} {gn : List D → R (List D)}
theorem de_has (h : Has X.prog X.w X.K X.mg X.base Y.cv x ps k g) (hr : Room j X.A) (hx : ∀ σ, PassesAt (L2.CX X.prog X.w) X σ (Y.E σ)) (ha : DA X Y (e :: es) ms) (hj : k ≤ j := by decide) (hg : Gl X x := by rfl)
    (hdb : (x == ("__debug__" : Str)) = false := by decide) (he : starEach (e :: es) X.env = (false, eval e X.env) :: starEach es X.env := by rfl) (hpl : (backTo pos (starEach es X.env)).any (·.1) = false := by rfl) : DE X Y (.Call (.Name x p) (e :: es) [] pos) (mCall g ms) := by
  obtain ⟨f, fd, F, m, kp, b⟩ := h.ex
  exact de_call F (hr.mono hj) hg m kp b hx ha hdb he hpl
theorem dn_has (h : HasN X.prog X.w X.K X.mg X.base Y.cv x ps k gn) (hr : Room j X.A) (hx : ∀ σ, PassesAt (L2.CX X.prog X.w) X σ (Y.E σ)) (ha : DA X Y (e :: es) ms) (hj : k ≤ j := by decide) (hg : Gl X x := by rfl)
    (hdb : (x == ("__debug__" : Str)) = false := by decide) (he : starEach (e :: es) X.env = (false, eval e X.env) :: starEach es X.env := by rfl) (hpl : (backTo pos (starEach es X.env)).any (·.1) = false := by rfl) : DN X Y (.Call (.Name x p) (e :: es) [] pos) (mCallN gn ms) := by
  obtain ⟨f, fd, F, m, kp, b⟩ := h.ex
  exact dn_call F (hr.mono hj) hg m kp b hx ha hdb he hpl
end
section
variable {P : Program} {w : World} {K : PySem.W.Frag} {mg : Str → Option Value} {base : Heap} {x qual : Str} {st : Stmt} {f : Addr} {fd : FuncData} {N ps : List Str} {k : Nat} {cv : Nat → Value}
/-- g is told less of, but right, by g' -/
def Tells {α : Type} (g' g : List D → R α) : Prop := ∀ ds, g' ds = .bad ∨ g ds = g' ds
theorem Has.imp {g g' : List D → R D} (h : Has P w K mg base cv x ps k g) (t : Tells g' g) : Has P w K mg base cv x ps k g' := by
  obtain ⟨f, fd, F, m, kp, b⟩ := h.ex
  refine ⟨f, fd, F.imp fun vs H Q E ⟨A, ds, c, r, wq⟩ => ⟨A, ds, c, r, ?_⟩, m, kp, b⟩
  rcases t ds with e | e
  · rw [e] at wq; exact wq.elim
  · rw [e]; exact wq
theorem HasN.imp {g g' : List D → R (List D)} (h : HasN P w K mg base cv x ps k g) (t : Tells g' g) : HasN P w K mg base cv x ps k g' := by
  obtain ⟨f, fd, F, m, kp, b⟩ := h.ex
  refine ⟨f, fd, F.imp fun vs H Q E ⟨A, ds, c, r, wq⟩ => ⟨A, ds, c, r, ?_⟩, m, kp, b⟩
  rcases t ds with e | e
  · rw [e] at wq; exact wq.elim
  · rw [e]; exact wq
theorem has_D {m : DS → R Out} (O : List Nat) (F : Fun K x qual st f fd) (mf : mg x = some (.ref f)) (b : Binds K fd ps []) (S : FnScope N ps (defScope st)) (hO : ∀ i ∈ O, ps.length ≤ i)
    (hbody : ∀ (cdv : Value) (A : Around) (outer : List Env) (s : Shared) (H : Hp) (E : XK), Room k (A.deeper (envOfC qual (defScope st) s.heap.objs.size f cdv)) →
      DSs (cxOf (L2.CX P w) P w K mg base N qual (defScope st) f cdv A outer s H E) ⟨cv, fun _ => E⟩ O (defBody st) m) : Has P w K mg base cv x ps (k + 1) (chk ps.length fun ds => fin (m (startD N ds))) :=
  ⟨f, fd, fn_D O F S hO hbody, mf, F.kp, b⟩
theorem has_N {m : DS → R Out} (O : List Nat) (F : Fun K x qual st f fd) (mf : mg x = some (.ref f)) (b : Binds K fd ps []) (S : FnScope N ps (defScope st)) (hO : ∀ i ∈ O, ps.length ≤ i)
    (hbody : ∀ (cdv : Value) (A : Around) (outer : List Env) (s : Shared) (H : Hp) (E : XK), Room k (A.deeper (envOfC qual (defScope st) s.heap.objs.size f cdv)) →
      DSs (cxOf (L2.CX P w) P w K mg base N qual (defScope st) f cdv A outer s H E) ⟨cv, fun _ => E⟩ O (defBody st) m) : HasN P w K mg base cv x ps (k + 1) (chk ps.length fun ds => finL (m (startD N ds))) :=
  ⟨f, fd, fn_N O F S hO hbody, mf, F.kp, b⟩
end
end L2
namespace L2
open PySem PySem.Spec PyProof.Rows
theorem wipe_one {σ : St} {j : Nat} {x : V} : wipe ((wipe σ [j]).set j (some x)) [j] = wipe σ [j] := by
  show ((σ.set j none).set j (some x)).set j none = σ.set j none
  rw [List.set_set, List.set_set]
section
variable {X : Cx} {Y : Wy} {O : List Nat}
theorem NSem.e {t : TE} {m : DS → R (List D)} (h : NSem X Y t m) : ∀ (σ : St) (δ : DS) (H : Hp) (A : Addr → Prop), Cov A H → SR X.K A σ δ H → ∀ Q : VK, WpE X.K (Y.at σ) A H ((m δ).map .list) Q → t σ H Q := fun σ δ H A c s Q w => h σ δ H A c s Q (w.of_l c)
/-! ### name = a new list, read with the owned slots -/
def mSetNI (i : Nat) (m : DS → R (List D)) : DS → R Out := fun δ => (m δ).run δ fun ds => R.when (inB i δ && imms ds) (.ok (.nx (δ.set i (some (.list ds)))))
theorem tsem_setNI {te : TE} {m : DS → R (List D)} {i : Nat} (ho : i ∉ O) (q : NSem X Y te m) : TSem X Y O (tAsg te (gName i)) (mSetNI i m) := fun A0 T H0 σ δ H Dn s w => by
  refine q σ δ H _ s.covH s.read _ ?_
  unfold mSetNI at w
  cases e : m δ with
  | bad => rw [e] at w; exact w
  | ex k => rw [e] at w; exact fun H' t => w σ H' (s.keep t)
  | ok ds =>
    rw [e] at w
    obtain ⟨hb, w⟩ := R.when_ok (fun r => WpS X.K Y A0 O T H0 r Dn) w id
    rw [Bool.and_eq_true] at hb
    refine fun p vs H' t np hp r => w _ H' ?_
    obtain ⟨w0, cv, sr, up, kp, tm, lst, _⟩ := s.share
    have np' : ¬ openA A0 O δ w0 p := cv.new np
    refine up i (.ref p) (.list ds) H' ho (by rw [s.len]; exact of_decide_eq_true hb.1) t (.lst (SqL.of (mask_some.mpr ⟨np', hp⟩)) (DpAll.tsame (tsame_mask2 fun a q => ?_) hb.2 r))
    rcases lst a q with q | ⟨xs, q⟩
    · exact .inl (.inl q)
    · exact .inr ⟨xs, t _ _ q⟩
theorem ds_setNI {i : Nat} {x : Str} {e : Expr} {m : DS → R (List D)} {pos pos' : Pos} (hN : X.N.Nodup) (hi : X.N[i]? = some x) (hx : Loc X.env.scope x) (he : DN X Y e m) (ho : i ∉ O := by decide) (hs : swapsWith e (some (.Name x pos')) pos.line X.env = pure false := by rfl) (hf : X.fn x = true ∨ X.env.scope.names.lookup x = some .local := by first | exact .inl rfl | exact .inr rfl | assumption) :
    DSt X Y O (.Assign [.Name x pos'] e pos) (mSetNI i m) := by
  obtain ⟨t, p, q⟩ := he
  exact ⟨_, ps_set hN hi hx p hs hf, tsem_setNI ho q⟩
/-! ### name = [.. for ..] on one line -/
section
variable {i : Nat} {st : Stmt} {m : DS → R (List D)}
theorem ds_lc (h : ∃ t, PS X st (tAsg t (gName i)) ∧ NSem X Y t m) (ho : i ∉ O := by decide) : DSt X Y O st (mSet O i fun δ => (m δ).map .list) := by
  obtain ⟨t, p, q⟩ := h
  exact ⟨_, p, tsem_set ho q.e⟩
theorem ds_lcI (h : ∃ t, PS X st (tAsg t (gName i)) ∧ NSem X Y t m) (ho : i ∉ O := by decide) : DSt X Y O st (mSetNI i m) := by
  obtain ⟨t, p, q⟩ := h
  exact ⟨_, p, tsem_setNI ho q⟩
theorem ds_lcO (h : ∃ t, PS X st (tAsg t (gName i)) ∧ NSem X Y t m) (ho : i ∈ O := by decide) : DSt X Y O st (mOwn O i m) := by
  obtain ⟨t, p, q⟩ := h
  exact ⟨_, p, tsem_own ho q⟩
theorem ds_lcOI (h : ∃ t, PS X st (tAsg t (gName i)) ∧ NSem X Y t m) (ho : i ∈ O := by decide) : DSt X Y O st (mOwnI i m) := by
  obtain ⟨t, p, q⟩ := h
  exact ⟨_, p, tsem_ownI ho q⟩
end
/-! ### f-strings -/
def gFmt : D → R D := fun d => match d with
  | .str y => R.when (szOk y.length) (.ok (.str y))
  | .int i => R.when (decide (i.natAbs.log2 < 1920)) (.ok (.str (toString i)))
  | _ => .bad
def gFmtR : D → R D := fun d => match d with
  | .str y => R.when (szOk (reprText y).length) (.ok (.str (reprText y)))
  | .int i => R.when (decide (i.natAbs.log2 < 1920)) (.ok (.str (toString i)))
  | _ => .bad
theorem de_fmt {e : Expr} {m : DS → R D} {pos : Pos} (h : DE X Y e m) : DE X Y (.FormattedValue e (-1) none pos) (fun δ => (m δ).bind gFmt) := by
  obtain ⟨t, p, q⟩ := h
  refine ⟨_, pe_fmt p, fun σ δ H A c s Q w => de_seq (Y := Y) q c s w fun d v H1 t1 r1 w1 => ?_⟩
  cases r1 with
  | str y =>
    obtain ⟨hb, w1⟩ := WpE.when w1
    exact .inl ⟨y, rfl, of_decide_eq_true hb, w1.here (.str _)⟩
  | int i =>
    obtain ⟨hb, w1⟩ := WpE.when w1
    exact .inr ⟨i, rfl, of_decide_eq_true hb, w1.here (.str _)⟩
  | _ => exact w1.elim
theorem de_fmtR {e : Expr} {m : DS → R D} {pos : Pos} (h : DE X Y e m) : DE X Y (.FormattedValue e 114 none pos) (fun δ => (m δ).bind gFmtR) := by
  obtain ⟨t, p, q⟩ := h
  refine ⟨_, pe_fmtR p, fun σ δ H A c s Q w => de_seq (Y := Y) q c s w fun d v H1 t1 r1 w1 => ?_⟩
  cases r1 with
  | str y =>
    obtain ⟨hb, w1⟩ := WpE.when w1
    exact .inl ⟨y, rfl, of_decide_eq_true hb, w1.here (.str _)⟩
  | int i =>
    obtain ⟨hb, w1⟩ := WpE.when w1
    exact .inr ⟨i, rfl, of_decide_eq_true hb, w1.here (.str _)⟩
  | _ => exact w1.elim
/-- the parts of an f-string, all texts -/
inductive FJ (X : Cx) (Y : Wy) : List Expr → List (DS → R D) → Prop where
  | nil : FJ X Y [] []
  | cons {e : Expr} {es : List Expr} {m : DS → R D} {ms : List (DS → R D)} (h : DE X Y e m) (r : FJ X Y es ms) : FJ X Y (e :: es) (m :: ms)
def strD : D → Option Str
  | .str y => some y
  | _ => none
def mJs : List (DS → R D) → Str → DS → R D
  | [], acc, _ => .ok (.str acc)
  | m :: ms, acc, δ => (m δ).bind fun d => match strD d with
    | some y => R.when (szOk (acc ++ y).length) (mJs ms (acc ++ y) δ)
    | none => .bad
theorem fj_run {es : List Expr} {ms : List (DS → R D)} (h : FJ X Y es ms) : ∃ ts, PJ X es ts ∧ ∀ (acc : Str) (σ : St) (δ : DS) (H : Hp) (A : Addr → Prop), Cov A H → SR X.K A σ δ H → ∀ Q : VK, WpE X.K (Y.at σ) A H (mJs ms acc δ) Q → tJs ts acc σ H (fun z H' => Q (.str z) H') := by
  induction h with
  | nil => exact ⟨[], .nil, fun acc σ δ H A c s Q w => WpE.here (d := .str acc) w (.str acc)⟩
  | @cons e es m ms h r ih =>
    obtain ⟨t, p, q⟩ := h
    obtain ⟨ts, ps, qs⟩ := ih
    refine ⟨t :: ts, .cons p ps, fun acc σ δ H A c s Q w => q σ δ H A c s _ ?_⟩
    unfold mJs at w
    cases e1 : m δ with
    | bad => rw [e1] at w; exact w
    | ex n => rw [e1] at w; exact w
    | ok d =>
      rw [e1] at w
      refine fun v H1 t1 r1 => ?_
      cases r1 with
      | str y =>
        obtain ⟨hb, w2⟩ := WpE.when (r := mJs ms (acc ++ y) δ) w
        exact ⟨y, rfl, of_decide_eq_true hb, qs _ σ δ H1 A (c.mono t1) (s.mono t1) Q (WpE.mono w2 t1)⟩
      | _ => exact w.elim
theorem de_fstr {v1 v2 : Expr} {rest : List Expr} {ms : List (DS → R D)} {pos : Pos} (h : FJ X Y (v1 :: v2 :: rest) ms) : DE X Y (.JoinedStr (v1 :: v2 :: rest) pos) (mJs ms Str.empty) := by
  obtain ⟨ts, p, q⟩ := fj_run h
  exact ⟨_, pe_joined p, fun σ δ H A c s Q w => q Str.empty σ δ H A c s Q w⟩
/-! ### a written dict with text keys -/
/-- at the name x stands a written dict; its keys have the data (or defs) that tb tells -/
structure TabD (K : PySem.W.Frag) (w : World) (mg : Str → Option Value) (x : Str) (tb : Str → Option D) : Prop where
  ex : ∃ (d : Addr) (es : Array DictEntry) (n : Nat), mg x = some (.ref d) ∧ KDict K w d es n ∧ (∀ z, tb z = none → PySem.W.nsIn K d z = some none) ∧
    (∀ z y, tb z = some y → ∃ u v, PySem.W.nsIn K d z = some (some u) ∧ RelV v u ∧ ∀ H, Dp K H v y)
theorem de_inTab {x : Str} {p pos : Pos} {e : Expr} {m : DS → R D} {tb : Str → Option D} (h : TabD X.K X.w X.mg x tb) (he : DE X Y e m) (hg : Gl X x := by rfl) (hdb : (x == ("__debug__" : Str)) = false := by decide) (hm : behindInMarks .In (.Name x p) = false := by first | exact nobehind _ (by decide) (by decide) | rfl) : DE X Y (.Compare e [.In] [.Name x p] pos) (fun δ => (m δ).bind fun d => match strD d with
    | some z => .ok (.bool (tb z).isSome)
    | none => .bad) := by
  obtain ⟨d, es, n, hx, D, h0, h1⟩ := h.ex
  obtain ⟨t, pe, q⟩ := he
  refine ⟨_, pe_cmpR (op_in_kd D) pe (pe_glob (v := .ref d) hg hx rfl hdb) hm, fun σ δ H A c s Q w => de_seq (Y := Y) q c s w fun dd v H1 t1 r1 w1 => ?_⟩
  cases r1 with
  | str z =>
    have w2 : WpE X.K (Y.at σ) A H1 (.ok (.bool (tb z).isSome)) Q := w1
    cases e : tb z with
    | none => rw [e] at w2; exact ⟨z, none, rfl, rfl, h0 z e, WpE.here w2 (.bl _)⟩
    | some y =>
      rw [e] at w2
      obtain ⟨u, v, k1, k2, k3⟩ := h1 z y e
      exact ⟨z, some u, rfl, rfl, k1, WpE.here w2 (.bl _)⟩
  | _ => exact w1.elim
theorem de_notInTab {x : Str} {p pos : Pos} {e : Expr} {m : DS → R D} {tb : Str → Option D} (h : TabD X.K X.w X.mg x tb) (he : DE X Y e m) (hg : Gl X x := by rfl) (hdb : (x == ("__debug__" : Str)) = false := by decide) (hm : behindInMarks .NotIn (.Name x p) = false := by first | exact nobehind _ (by decide) (by decide) | rfl) : DE X Y (.Compare e [.NotIn] [.Name x p] pos) (fun δ => (m δ).bind fun d => match strD d with
    | some z => .ok (.bool (!(tb z).isSome))
    | none => .bad) := by
  obtain ⟨d, es, n, hx, D, h0, h1⟩ := h.ex
  obtain ⟨t, pe, q⟩ := he
  refine ⟨_, pe_cmpR (op_notIn_kd D) pe (pe_glob (v := .ref d) hg hx rfl hdb) hm, fun σ δ H A c s Q w => de_seq (Y := Y) q c s w fun dd v H1 t1 r1 w1 => ?_⟩
  cases r1 with
  | str z =>
    have w2 : WpE X.K (Y.at σ) A H1 (.ok (.bool (!(tb z).isSome))) Q := w1
    cases e : tb z with
    | none => rw [e] at w2; exact ⟨z, none, rfl, rfl, h0 z e, WpE.here w2 (.bl _)⟩
    | some y =>
      rw [e] at w2
      obtain ⟨u, v, k1, k2, k3⟩ := h1 z y e
      exact ⟨z, some u, rfl, rfl, k1, WpE.here w2 (.bl _)⟩
  | _ => exact w1.elim
theorem de_getTab {x : Str} {p pos : Pos} {e : Expr} {m : DS → R D} {tb : Str → Option D} (h : TabD X.K X.w X.mg x tb) (he : DE X Y e m) (hg : Gl X x := by rfl) (hdb : (x == ("__debug__" : Str)) = false := by decide) (hs : PlainIx e := by exact fun _ _ => rfl) : DE X Y (.Subscript (.Name x p) e pos) (fun δ => (m δ).bind fun d => match (strD d).bind tb with
    | some y => .ok y
    | none => .bad) := by
  obtain ⟨d, es, n, hx, D, h0, h1⟩ := h.ex
  obtain ⟨t, pe, q⟩ := he
  refine ⟨_, pe_ix ix_kdict (pe_glob (v := .ref d) hg hx rfl hdb) pe hs, fun σ δ H A c s Q w => ?_⟩
  refine de_seq (Y := Y) q c s w fun dd v H1 t1 r1 w1 => ?_
  cases r1 with
  | str z =>
    have w2 : WpE X.K (Y.at σ) A H1 (match tb z with
      | some y => .ok y
      | none => .bad) Q := w1
    cases e : tb z with
    | none => rw [e] at w2; exact w2.elim
    | some y =>
      rw [e] at w2
      obtain ⟨u, v, k1, k2, k3⟩ := h1 z y e
      exact ⟨d, z, v, rfl, rfl, ⟨es, n, u, D.at_, D.lit, k1, k2⟩, WpE.here w2 (k3 _)⟩
  | _ => exact w1.elim
/-! ### a written dict of defs: r = T[e]; return r(..) -/
theorem pe_callH {x : Str} {i : Nat} {p pos : Pos} {e : Expr} {es : List Expr} {t : TA} {E : L2.St → XK} (hx : ∀ σ, PassesAt (L2.CX X.prog X.w) X σ (E σ)) (hN : X.N[i]? = some x) (hv : Vis X.env.scope x) (ha : PA X (e :: es) t)
    (hdb : (x == ("__debug__" : Str)) = false := by decide) (hcd : (x == ("__classdict__" : Str)) = false := by decide) (he : starEach (e :: es) X.env = (false, eval e X.env) :: starEach es X.env := by rfl) (hpl : (backTo pos (starEach es X.env)).any (·.1) = false := by rfl) :
    PE X (.Call (.Name x p) (e :: es) [] pos) (fun σ H Q => ∃ f fd ps sp k, σ[i]? = some (some (.ref f)) ∧ FnOk X.prog X.w X.K X.mg X.base (L2.CX X.prog X.w) k f fd ps sp ∧ Room k X.A ∧ PySem.W.keepIn X.K (.ref f) = true ∧ Binds X.K fd ps [] ∧ t σ H fun vs H1 => sp vs H1 Q (E σ)) := by
  refine ⟨fun pins s σ H Q I h => ?_⟩
  obtain ⟨f, fd, ps, sp, k, hs, F, hr, hk, hb, ht⟩ := h
  refine wpAny_Call_Name_kw (thn ((pe_var (pos := p) hN hv hdb hcd).run pins s σ H (fun v H1 => v = .ref f ∧ H1 = H) I ⟨.ref f, hs, rfl, rfl⟩) fun u s1 ⟨v, H1, I1, r1, q1⟩ => ?_)
  obtain ⟨rfl, rfl⟩ := q1
  cases r1
  refine PySem.W.callWith_K (h₀ := X.base) I.ok.mod.kin hk (thn (ha.run pos pins s1 σ _ _ I1 ht) fun us s2 ⟨vs, H2, I2, r, q⟩ => ⟨I2.kIn, ?_⟩) he hpl
  exact run_fnSD F hr hb .nil (hx σ) I2 r (by rw [List.append_nil]; exact q)
structure TabF (P : Program) (w : World) (K : PySem.W.Frag) (mg : Str → Option Value) (base : Heap) (cv : Nat → Value) (x : Str) (k : Nat) (tb : Str → Option (List D → R D)) : Prop where
  ex : ∃ (d : Addr) (es : Array DictEntry) (n : Nat), mg x = some (.ref d) ∧ KDict K w d es n ∧ ∀ z g, tb z = some g → ∃ f fd ps, PySem.W.nsIn K d z = some (some (.ref f)) ∧ FnOk P w K mg base (L2.CX P w) k f fd ps (SpD K cv g) ∧ PySem.W.keepIn K (.ref f) = true ∧ Binds K fd ps []
def mTabF (tb : Str → Option (List D → R D)) (i : Nat) (me : DS → R D) (ms : DS → R (List D)) : DS → R Out := fun δ => (me δ).run δ fun d => match (strD d).bind tb with
  | some g => R.when (inB i δ) ((ms (δ.set i none)).run (δ.set i none) fun ds => (g ds).run (δ.set i none) fun y => .ok (.rt y))
  | none => .bad
theorem SS.forget {K : PySem.W.Frag} {A0 : Addr → Prop} {T : List Tm} {H0 H : Hp} {σ : St} {δ : DS} {i : Nat} {v : V} (s : SS K A0 [] T H0 σ δ H) : SS K A0 [] T H0 (σ.set i (some v)) (δ.set i none) H := by
  obtain ⟨w, h1, h2, h3, h4⟩ := s.ex
  have e : ∀ {δ : DS}, (fun a => A0 a ∨ ∃ j ∈ ([] : List Nat), (∃ d, δ[j]? = some (some d)) ∧ a = w j) = A0 := fun {δ} => by
    funext a
    exact propext ⟨fun q => q.elim id fun ⟨j, jo, _⟩ => absurd jo List.not_mem_nil, .inl⟩
  refine ⟨⟨w, fun k x ko q => ?_, fun k x ko q => absurd ko List.not_mem_nil, fun k j ko => absurd ko List.not_mem_nil, fun p hp => ?_⟩, by rw [List.length_set, List.length_set]; exact s.len, s.same, s.cov⟩
  · rw [e]
    by_cases hk : i = k
    · subst hk
      by_cases hl : i < δ.length
      · rw [List.getElem?_set_self hl] at q; cases q
      · rw [List.getElem?_eq_none (by simpa using hl)] at q; cases q
    · rw [List.getElem?_set_ne hk] at q ⊢
      have z := h1 k x ko q
      rw [e] at z
      exact z
  · rw [e]
    have z := h4 p hp
    rw [e] at z
    exact z
theorem dss_tabF {x r : Str} {i j k : Nat} {p p1 p2 p3 p4 p5 pos : Pos} {ek e : Expr} {es : List Expr} {me : DS → R D} {ms : DS → R (List D)} {tb : Str → Option (List D → R D)} (h : TabF X.prog X.w X.K X.mg X.base Y.cv x k tb) (hr : Room j X.A) (hj : k ≤ j) (hx : ∀ σ, PassesAt (L2.CX X.prog X.w) X σ (Y.E σ))
    (hN : X.N.Nodup) (hi : X.N[i]? = some r) (hl : Loc X.env.scope r) (hv : Vis X.env.scope r) (hek : DE X Y ek me) (ha : DA X Y (e :: es) ms) (hg : Gl X x := by rfl) (hdx : (x == ("__debug__" : Str)) = false := by decide) (hs : PlainIx ek := by exact fun _ _ => rfl)
    (hsw : swapsWith (.Subscript (.Name x p1) ek p2) (some (.Name r p)) p3.line X.env = pure false := by rfl) (hf : X.fn r = true ∨ X.env.scope.names.lookup r = some .local := by first | exact .inl rfl | exact .inr rfl | assumption)
    (hdb : (r == ("__debug__" : Str)) = false := by decide) (hcd : (r == ("__classdict__" : Str)) = false := by decide) (he : starEach (e :: es) X.env = (false, eval e X.env) :: starEach es X.env := by rfl) (hpl : (backTo p5 (starEach es X.env)).any (·.1) = false := by rfl) :
    DSs X Y [] [.Assign [.Name r p] (.Subscript (.Name x p1) ek p2) p3, .Return (some (.Call (.Name r p4) (e :: es) [] p5)) pos] (mTabF tb i me ms) := by
  obtain ⟨d, ets, n, hxd, KD, htb⟩ := h.ex
  obtain ⟨t, pe, q⟩ := hek
  obtain ⟨ta, pa, qa⟩ := ha
  refine ⟨_, pss_cons (ps_set hN hi hl (pe_ix ix_kdict (pe_glob (v := .ref d) hg hxd rfl hdx) pe hs) hsw hf) (pss_one (ps_ret (pe_callH (E := Y.E) hx hi hv pa hdb hcd he hpl))), fun A0 T H0 σ δ H Dn s w => q σ δ H A0 s.covH s.read _ ?_⟩
  unfold mTabF at w
  cases e1 : me δ with
  | bad => rw [e1] at w; exact w
  | ex k => rw [e1] at w; exact fun H' t => w σ H' (s.keep t)
  | ok dk =>
    rw [e1] at w
    dsimp only [R.run] at w
    refine fun v H1 t1 r1 => ?_
    cases r1 with
    | str z =>
      have w2 : WpS X.K Y A0 [] T H0 (match tb z with
        | some g => R.when (inB i δ) ((ms (δ.set i none)).run (δ.set i none) fun ds => (g ds).run (δ.set i none) fun y => .ok (.rt y))
        | none => .bad) Dn := w
      cases e2 : tb z with
      | none => rw [e2] at w2; exact w2.elim
      | some g =>
        rw [e2] at w2
        obtain ⟨hb, w2⟩ := R.when_ok (fun r => WpS X.K Y A0 [] T H0 r Dn) w2 id
        obtain ⟨f, fd, ps, k1, F, kp, bd⟩ := htb z g e2
        refine ⟨d, z, .ref f, rfl, rfl, ⟨ets, n, _, KD.at_, KD.lit, k1, rfl⟩, ?_⟩
        have s1 := (s.keep t1).forget (i := i) (v := .ref f)
        have hil : i < σ.length := by rw [s.len]; exact of_decide_eq_true hb
        refine ⟨f, fd, ps, _, k, List.getElem?_set_self hil, F, hr.mono hj, kp, bd, qa _ _ H1 A0 s1.covH s1.read _ ?_⟩
        cases e3 : ms (δ.set i none) with
        | bad => rw [e3] at w2; exact w2
        | ex k => rw [e3] at w2; exact fun H' t => w2 _ H' (s1.keep t)
        | ok ds =>
          rw [e3] at w2
          dsimp only [R.run] at w2
          refine fun vs H2 t2 r2 => ⟨A0, ds, s1.covH.mono t2, r2, ?_⟩
          cases e4 : g ds with
          | bad => rw [e4] at w2; exact w2
          | ex k => rw [e4] at w2; exact fun H' t => w2 _ H' (s1.keep (t2.trans t))
          | ok y => rw [e4] at w2; exact fun u H3 t3 r3 => w2 u H3 (s1.same.trans (t2.trans t3)) r3
    | _ => exact w.elim
end
end L2
namespace L2
open PySem PySem.Spec PyProof.Rows
/-! ## equations of the answers, for simp -/
section
variable {i j k : Nat} {δ : DS} {d e : D} {m n ma mb mc me mj : DS → R D}
def getV : Option (Option D) → R D
  | some (some d) => .ok d
  | _ => .bad
theorem q_var : mVar i δ = getV (δ[i]?) := (rfl)
theorem q_get : getV (some (some d)) = .ok d := (rfl)
theorem q_c : mC d δ = .ok d := (rfl)
theorem q_bin {g : D → D → R D} : mBin g ma mb δ = (ma δ).bind fun x => (mb δ).bind fun y => g x y := (rfl)
theorem q_nil : mNil δ = .ok [] := (rfl)
theorem q_cons {ms : DS → R (List D)} : mCons m ms δ = (m δ).bind fun d => (ms δ).map fun ds => d :: ds := (rfl)
theorem q_call {g : List D → R D} {ms : DS → R (List D)} : mCall g ms δ = (ms δ).bind g := (rfl)
theorem q_callN {g : List D → R (List D)} {ms : DS → R (List D)} : mCallN g ms δ = (ms δ).bind g := (rfl)
theorem q_tup {ms : DS → R (List D)} : mTup ms δ = (ms δ).bind fun ds => R.when (szOk ds.length) (.ok (.tuple ds)) := (rfl)
theorem q_lst {ms : DS → R (List D)} : mLst ms δ = (ms δ).bind fun ds => R.when (szOk ds.length) (.ok ds) := (rfl)
theorem q_B : mB m δ = (m δ).bind boolD := (rfl)
theorem q_boolD {b : Bool} : boolD (.bool b) = .ok b := (rfl)
theorem q_not {m : DS → R Bool} : mNot m δ = (m δ).map (!·) := (rfl)
theorem q_and {m n : DS → R Bool} : mAnd m n δ = (m δ).bind fun b => if b = true then n δ else .ok false := (rfl)
theorem q_or {m n : DS → R Bool} : mOr m n δ = (m δ).bind fun b => if b = true then .ok true else n δ := (rfl)
def andK (r : R D) : D → R D
  | .bool true => r
  | .bool false => .ok (.bool false)
  | _ => .bad
def orK (r : R D) : D → R D
  | .bool false => r
  | .bool true => .ok (.bool true)
  | _ => .bad
def notK : D → R D
  | .bool b => .ok (.bool (!b))
  | _ => .bad
def negK : D → R D
  | .int i => .ok (.int (-i))
  | _ => .bad
theorem q_andE : mAndE ma mb δ = (ma δ).bind (andK (mb δ)) := by
  unfold mAndE
  cases ma δ with
  | bad => rfl
  | ex n => rfl
  | ok d => cases d with
    | bool b => cases b <;> rfl
    | _ => rfl
theorem q_orE : mOrE ma mb δ = (ma δ).bind (orK (mb δ)) := by
  unfold mOrE
  cases ma δ with
  | bad => rfl
  | ex n => rfl
  | ok d => cases d with
    | bool b => cases b <;> rfl
    | _ => rfl
theorem q_notE : mNotE ma δ = (ma δ).bind notK := by
  unfold mNotE
  cases ma δ with
  | bad => rfl
  | ex n => rfl
  | ok d => cases d <;> rfl
theorem q_neg : mNeg ma δ = (ma δ).bind negK := by
  unfold mNeg
  cases ma δ with
  | bad => rfl
  | ex n => rfl
  | ok d => cases d <;> rfl
theorem q_andK {b : Bool} {r : R D} : andK r (.bool b) = if b = true then r else .ok (.bool false) := by cases b <;> rfl
theorem q_orK {b : Bool} {r : R D} : orK r (.bool b) = if b = true then .ok (.bool true) else r := by cases b <;> rfl
theorem q_notK {b : Bool} : notK (.bool b) = .ok (.bool (!b)) := (rfl)
theorem q_negK {i : Int} : negK (.int i) = .ok (.int (-i)) := (rfl)
theorem q_ifE {mc : DS → R Bool} : mIfE mc ma mb δ = (mc δ).bind fun b => if b = true then ma δ else mb δ := (rfl)
/-! statements -/
def seqK (n : DS → R Out) : Out → R Out
  | .nx δ' => n δ'
  | o => .ok o
theorem q_seq {m n : DS → R Out} : mSeq m n δ = (m δ).bind (seqK n) := by
  unfold mSeq
  cases m δ with
  | bad => rfl
  | ex n => rfl
  | ok d => cases d <;> rfl
theorem q_seqK {n : DS → R Out} : seqK n (.nx δ) = n δ := (rfl)
theorem q_seqR {n : DS → R Out} : seqK n (.rt d) = .ok (.rt d) := (rfl)
theorem q_seqL {n : DS → R Out} {ds : List D} : seqK n (.rl ds) = .ok (.rl ds) := (rfl)
theorem q_seqX {n : DS → R Out} {z : Nat} : seqK n (.ex z δ) = .ok (.ex z δ) := (rfl)
theorem q_skip : mSkip δ = .ok (.nx δ) := (rfl)
theorem q_if {mc : DS → R Bool} {m n : DS → R Out} : mIf mc m n δ = (mc δ).run δ fun b => if b = true then m δ else n δ := (rfl)
theorem q_set {O : List Nat} : mSet O i m δ = (m (hideD O δ)).run δ fun d => R.when (inB i δ) (.ok (.nx (δ.set i (some d)))) := (rfl)
theorem q_setI : mSetI i m δ = (m δ).run δ fun d => R.when (inB i δ && imm d) (.ok (.nx (δ.set i (some d)))) := (rfl)
theorem q_setNI {m : DS → R (List D)} : mSetNI i m δ = (m δ).run δ fun ds => R.when (inB i δ && imms ds) (.ok (.nx (δ.set i (some (.list ds))))) := (rfl)
theorem q_own {O : List Nat} {m : DS → R (List D)} : mOwn O i m δ = (m (hideD O δ)).run δ fun ds => R.when (inB i δ) (.ok (.nx (δ.set i (some (.list ds))))) := (rfl)
theorem q_ownI {m : DS → R (List D)} : mOwnI i m δ = (m δ).run δ fun ds => R.when (inB i δ && imms ds) (.ok (.nx (δ.set i (some (.list ds))))) := (rfl)
theorem q_ret : mRet m δ = (m δ).run δ fun d => .ok (.rt d) := (rfl)
theorem q_retL {m : DS → R (List D)} : mRetL m δ = (m δ).run δ fun d => .ok (.rl d) := (rfl)
def ownV : Option (Option D) → R (List D)
  | some (some (.list ds)) => .ok ds
  | _ => .bad
theorem q_owned : ownedL i δ = ownV (δ[i]?) := (rfl)
theorem q_ownV {ds : List D} : ownV (some (some (.list ds))) = .ok ds := (rfl)
theorem q_retO : mRetO i δ = (ownedL i δ).map .rl := (rfl)
theorem q_drop : mDrop m δ = (m δ).run δ fun _ => .ok (.nx δ) := (rfl)
theorem q_app {O : List Nat} : mApp O i m δ = (ownedL i δ).bind fun ds => (m (hideD O δ)).run δ fun d => R.when (ltOk ds.length) (.ok (.nx (δ.set i (some (.list (ds ++ [d])))))) := (rfl)
theorem q_appI : mAppI i m δ = (ownedL i δ).bind fun ds => (m δ).run δ fun d => R.when (ltOk ds.length && imm d) (.ok (.nx (δ.set i (some (.list (ds ++ [d])))))) := (rfl)
theorem q_setAt {O : List Nat} : mSetAt O i m mj δ = (ownedL i δ).bind fun ds => (m (hideD O δ)).run δ fun d => (mj δ).run δ fun j => mPut i ds δ d j := (rfl)
theorem q_setAtI : mSetAtI i m mj δ = (ownedL i δ).bind fun ds => (m δ).run δ fun d => (mj δ).run δ fun j => R.when (imm d) (mPut i ds δ d j) := (rfl)
def putK' (i : Nat) (ds : List D) (δ : DS) (d : D) : Option Nat → R Out
  | some n => .ok (.nx (δ.set i (some (.list (ds.set n d)))))
  | none => .bad
theorem q_put {ds : List D} {z : Int} : mPut i ds δ d (.int z) = putK' i ds δ d (ixN ds.length z) := (rfl)
theorem q_putK {ds : List D} {n : Nat} : putK' i ds δ d (some n) = .ok (.nx (δ.set i (some (.list (ds.set n d))))) := (rfl)
theorem q_hide {O : List Nat} : hideD O δ = hideF O 0 δ := (rfl)
theorem q_hide0 {O : List Nat} : hideF O k [] = [] := (rfl)
theorem q_hideC {O : List Nat} {x : Option D} {r : DS} : hideF O k (x :: r) = (if O.elem k = true then none else x) :: hideF O (k + 1) r := (rfl)
theorem q_hideN : hideD [] δ = δ := by
  have h : ∀ (δ : DS) k, hideF [] k δ = δ := fun δ => by
    induction δ with
    | nil => intro k; rfl
    | cons x r ih =>
      intro k
      show (if false = true then none else x) :: hideF [] (k + 1) r = x :: r
      rw [ih, if_neg Bool.false_ne_true]
  exact h δ 0
theorem q_inB : inB i δ = decide (i < δ.length) := (rfl)
theorem q_fin : fin (.ok (.rt d)) = .ok d := (rfl)
theorem q_finL {ds : List D} : fin (.ok (.rl ds)) = .ok (.list ds) := (rfl)
theorem q_finN : fin (.ok (.nx δ)) = .ok .none := (rfl)
theorem q_finX {z : Nat} : fin (.ok (.ex z δ)) = .ex z := (rfl)
theorem q_finL' {ds : List D} : finL (.ok (.rl ds)) = .ok ds := rfl
theorem q_finLX {z : Nat} : finL (.ok (.ex z δ)) = .ex z := (rfl)
theorem q_raise {z : Nat} {ms : DS → R (List D)} : mRaiseD z ms δ = (ms δ).run δ fun ds => R.when (szOk ds.length) (.ok (.ex z δ)) := (rfl)
/-! operations -/
section
variable {a b : Int} {s t : Str} {xs ys : List D}
theorem g_cmp {p : Int → Int → Bool} : gCmp p (.int a) (.int b) = .ok (.bool (p a b)) := (rfl)
theorem g_addI : gAdd (.int a) (.int b) = .ok (.int (a + b)) := (rfl)
theorem g_subI : gSubI (.int a) (.int b) = .ok (.int (a - b)) := (rfl)
theorem g_mulI : gMul (.int a) (.int b) = R.when (mulOk a b) (.ok (.int (a * b))) := (rfl)
theorem g_modI : gMod (.int a) (.int b) = R.when (modOk a b) (.ok (.int (a % b))) := (rfl)
theorem g_divI : gDiv (.int a) (.int b) = R.when (divOk a b) (.ok (.int (a / b))) := (rfl)
theorem alt_l {r : R D} {x y : D} {g g' : D → D → R D} (h : g x y = r) (hb : r = .bad → g' x y = .bad) : alt g g' x y = r := by
  unfold alt
  rw [h]
  cases r with
  | bad => exact hb rfl
  | ex n => rfl
  | ok d => rfl
theorem g_addS : gAdd (.str s) (.str t) = R.when (szOk (s.length + t.length)) (.ok (.str (s ++ t))) :=
  alt_l (g := gS cLen fun i j => .str (i ++ j)) rfl fun _ => rfl
theorem g_addL : gAdd (.list xs) (.list ys) = (R.when (szOk (xs.length + ys.length)) (.ok (.list (xs ++ ys)))) := by
  show (R.when (szOk (xs.length + ys.length)) (.ok (xs ++ ys))).map PyData.list = _
  cases szOk (xs.length + ys.length) <;> rfl
theorem g_addT : gAdd (.tuple xs) (.tuple ys) = R.when (szOk (xs.length + ys.length)) (.ok (.tuple (xs ++ ys))) :=
  show alt gCatT (fun x y => (gCatL x y).map .list) (.tuple xs) (.tuple ys) = _ from alt_l rfl fun _ => rfl
theorem g_catL : gCatL (.list xs) (.list ys) = R.when (szOk (xs.length + ys.length)) (.ok (xs ++ ys)) := (rfl)
def atK : Option D → R D
  | some d => .ok d
  | none => .bad
theorem g_ixL : gIx (.list xs) (.int a) = atK (atI xs a) := (rfl)
theorem g_ixT : gIx (.tuple xs) (.int a) = atK (atI xs a) := (rfl)
theorem g_atK : atK (some d) = .ok d := (rfl)
theorem g_lenL : gLen [.list xs] = .ok (.int xs.length) := (rfl)
theorem g_lenT : gLen [.tuple xs] = .ok (.int xs.length) := (rfl)
theorem g_lenS : gLen [.str s] = R.when (szOk s.length) (.ok (.int s.length)) := (rfl)
theorem g_listL : gList [.list xs] = .ok xs := (rfl)
theorem g_listT : gList [.tuple xs] = .ok xs := (rfl)
theorem g_tupL : gTuple [.list xs] = .ok (.tuple xs) := (rfl)
def allK : Option (List Bool) → R D
  | some bs => .ok (.bool (bs.all id))
  | none => .bad
def anyK : Option (List Bool) → R D
  | some bs => .ok (.bool (bs.any id))
  | none => .bad
def sumK : Option (List Bool) → R D
  | some bs => .ok (.int (bs.map numB).sum)
  | none => .bad
theorem g_all : gAll [.list xs] = allK (boolsD xs) := (rfl)
theorem g_any : gAny [.list xs] = anyK (boolsD xs) := (rfl)
theorem g_sum : gSum [.list xs] = sumK (boolsD xs) := (rfl)
theorem bools_of (bs : List Bool) : boolsD (bs.map PyData.bool) = some bs := by
  induction bs with
  | nil => rfl
  | cons b bs ih => show (boolsD (bs.map PyData.bool)).map (fun q => b :: q) = _; rw [ih]; rfl
theorem g_allK {bs : List Bool} : allK (some bs) = .ok (.bool (bs.all id)) := (rfl)
theorem g_anyK {bs : List Bool} : anyK (some bs) = .ok (.bool (bs.any id)) := (rfl)
theorem g_sumK {bs : List Bool} : sumK (some bs) = .ok (.int (bs.map numB).sum) := (rfl)
end
end
/-! == of data -/
theorem shp_int {i : Int} : shp (.int i) = true := by unfold shp; rfl
theorem eqv_int {i j : Int} : PyData.eqv (.int i) (.int j) = decide (i = j) := by
  show (i == j) = decide (i = j); by_cases h : i = j <;> simp [h]
theorem g_eqI {i j : Int} : gEq (.int i) (.int j) = .ok (.bool (decide (i = j))) := by
  unfold gEq; rw [shp_int, shp_int, eqv_int]; rfl
end L2
namespace L2
open PySem PySem.Spec PyProof.Rows
section
variable {X : Cx} {Y : Wy} {O : List Nat}
/-! ## a, b = e -/
def stPair (i j : Nat) : D → DS → R DS := fun d δ => match d with
  | .tuple [x, y] => R.when (inB i δ && inB j (δ.set i (some x))) (.ok ((δ.set i (some x)).set j (some y)))
  | _ => .bad
theorem dg_pair {i j : Nat} {a b : Str} {pa pb pos : Pos} {x1} (hc : X.calm = true) (hN : X.N.Nodup) (hi : X.N[i]? = some a) (hj : X.N[j]? = some b) (ha : Loc X.env.scope a) (hb : Loc X.env.scope b) (hoi : i ∉ O := by decide) (hoj : j ∉ O := by decide)
    (hfa : X.fn a = true ∨ X.env.scope.names.lookup a = some .local := by first | exact .inl rfl | exact .inr rfl | assumption) (hfb : X.fn b = true ∨ X.env.scope.names.lookup b = some .local := by first | exact .inl rfl | exact .inr rfl | assumption) : DG X O (.Tuple [.Name a pa, .Name b pb] x1 pos) (stPair i j) := by
  refine ⟨_, pg_tup hc (pgs_cons (pg_name hN hi ha hfa) (pgs_cons (pg_name hN hj hb hfb) pgs_nil)), fun A0 T H0 σ δ H v d Q s w => ?_⟩
  unfold stPair at w
  split at w
  · rename_i x y
    obtain ⟨hb, w⟩ := R.when_ok (fun r => WpG X.K A0 O T H0 H r Q) w id
    rw [Bool.and_eq_true] at hb
    obtain ⟨w0, k1, k2, k3, k4⟩ := s.ex
    obtain ⟨p, vs, rfl, g1, g2⟩ := dp_tup (show Dp X.K _ v (.tuple [x, y]) from k4 _ List.mem_cons_self)
    obtain ⟨vx, vy, rfl, g3, g4⟩ := dpAll2 g2
    have h1 := sqT_same mask_le g1
    have s1 : SS X.K A0 O (tmD X.K vx x :: tmD X.K vy y :: tmD X.K (.ref p) (.tuple [x, y]) :: T) H0 σ δ H := by
      refine ⟨⟨w0, k1, k2, k3, fun q hq => ?_⟩, s.len, s.same, s.cov⟩
      rcases List.mem_cons.mp hq with rfl | hq
      · exact g3
      · rcases List.mem_cons.mp hq with rfl | hq
        · exact g4
        · exact k4 q hq
    exact ⟨p, [vx, vy], rfl, h1, rfl, vx, [vy], rfl, vy, [], rfl, rfl, w _ ((s1.setT hoi hb.1).setT hoj hb.2).untemp⟩
  · exact w.elim
/-- target = e, any target -/
def mAsg (O : List Nat) (st : D → DS → R DS) (m : DS → R D) : DS → R Out := fun δ => (m (hideD O δ)).run δ fun d => match st d δ with
  | .ok δ' => .ok (.nx δ')
  | _ => .bad
theorem ds_asg {tg e : Expr} {pos : Pos} {m : DS → R D} {st : D → DS → R DS} (hg : DG X O tg st) (he : DE X Y e m) (hs : swapsWithSole [tg] e pos.line X.env = pure false := by rfl) (hw : swappedStores [tg] e X.env = pure none := by rfl)
    (h1 : (assignEach [tg] X.env).map (·.2) = [assign tg X.env] := by rfl) : DSt X Y O (.Assign [tg] e pos) (mAsg O st m) := by
  obtain ⟨g, pg, qg⟩ := hg
  obtain ⟨t, p, q⟩ := he
  refine ⟨_, ps_asg p pg hs hw h1, fun A0 T H0 σ δ H Dn s w => ?_⟩
  obtain ⟨w0, cv, sr, up, kp, tm, _⟩ := s.share
  refine q σ (hideD O δ) H _ cv sr _ ?_
  unfold mAsg at w
  cases e : m (hideD O δ) with
  | bad => rw [e] at w; exact w
  | ex k => rw [e] at w; exact fun H' t => w σ H' (s.keep t)
  | ok d =>
    rw [e] at w
    dsimp only [R.run] at w
    refine fun v H' t r => qg A0 T H0 σ δ H' v d _ (tm (tmD X.K v d) H' t r) ?_
    cases e2 : st d δ with
    | bad => rw [e2] at w; exact w
    | ex k => rw [e2] at w; exact w
    | ok δ' => rw [e2] at w; exact fun σ' s' => w σ' H' s'
theorem q_asg {O : List Nat} {st : D → DS → R DS} {m : DS → R D} {δ : DS} : mAsg O st m δ = (m (hideD O δ)).run δ fun d => match st d δ with
  | .ok δ' => .ok (.nx δ')
  | _ => .bad := (rfl)
theorem q_pair {i j : Nat} {x y : D} {δ : DS} : stPair i j (.tuple [x, y]) δ = R.when (inB i δ && inB j (δ.set i (some x))) (.ok ((δ.set i (some x)).set j (some y))) := (rfl)
/-! ## the class X of errors, which number it has -/
structure ExcAt (K : PySem.W.Frag) (mg : Str → Option Value) (cv : Nat → Value) (x : Str) (n : Nat) : Prop where
  ex : ∃ (C : Addr) (bmB : List Value), mg x = some (.ref C) ∧ PySem.W.excIn K C bmB "ValueError.__new__" = true ∧ ExcBaseFacts "ValueError" "ValueError.__new__" "ValueError.__init__" bmB ∧ PySem.W.keepIn K (.ref C) = true ∧ PySem.W.subIn K (.ref C) (.type "BaseException") = some true ∧ PySem.W.typeIn K (.ref C) = some (.type "type") ∧ cv n = .ref C
theorem ds_raiseA {x : Str} {p pos pos' : Pos} {e : Expr} {es : List Expr} {ms : DS → R (List D)} {n : Nat} (hx : ExcAt X.K X.mg Y.cv x n) (hc : X.calm = true) (tk : Takes X Y.wx) (ha : DA X Y (e :: es) ms) (hg : Gl X x := by rfl) (hdb : (x == ("__debug__" : Str)) = false := by decide)
    (he : starEach (e :: es) X.env = (false, eval e X.env) :: starEach es X.env := by rfl) (hpl : (backTo pos (starEach es X.env)).any (·.1) = false := by rfl) : DSt X Y O (.Raise (some (.Call (.Name x p) (e :: es) [] pos)) none pos') (mRaiseD n ms) := by
  obtain ⟨C, bmB, g, xn, F, k, b, t, hcv⟩ := hx.ex
  exact ds_raise n hc tk F xn g k (raises_own b t) hcv hg ha hdb he hpl
/-! ## tests: x in T, x not in T, T a written dict -/
def inK (tb : Str → Option D) (neg : Bool) : D → R Bool := fun d => match strD d with
  | some z => .ok (if neg = true then !(tb z).isSome else (tb z).isSome)
  | none => .bad
theorem dt_inTab {x : Str} {p pos : Pos} {e : Expr} {m : DS → R D} {tb : Str → Option D} (h : TabD X.K X.w X.mg x tb) (he : DE X Y e m) (hg : Gl X x := by rfl) (hdb : (x == ("__debug__" : Str)) = false := by decide) (hm : behindInMarks .In (.Name x p) = false := by first | exact nobehind _ (by decide) (by decide) | rfl) : DT X Y (.Compare e [.In] [.Name x p] pos) (fun δ => (m δ).bind (inK tb false)) := by
  obtain ⟨d, es, n, hx, D, h0, h1⟩ := h.ex
  obtain ⟨t, pe, q⟩ := he
  refine ⟨_, pt_cmpR (op_in_kd D) pe (pe_glob (v := .ref d) hg hx rfl hdb) hm, fun σ δ H A c s Q w => dt_seq (Y := Y) q c s w fun dd v H1 t1 r1 w1 => ?_⟩
  cases r1 with
  | str z =>
    have w2 : WpT (Y.at σ) H1 (.ok (tb z).isSome) Q := w1
    cases e : tb z with
    | none => rw [e] at w2; exact ⟨z, none, rfl, rfl, h0 z e, false, rfl, w2.here⟩
    | some y =>
      rw [e] at w2
      obtain ⟨u, v, k1, k2, k3⟩ := h1 z y e
      exact ⟨z, some u, rfl, rfl, k1, true, rfl, w2.here⟩
  | _ => exact w1.elim
theorem dt_notInTab {x : Str} {p pos : Pos} {e : Expr} {m : DS → R D} {tb : Str → Option D} (h : TabD X.K X.w X.mg x tb) (he : DE X Y e m) (hg : Gl X x := by rfl) (hdb : (x == ("__debug__" : Str)) = false := by decide) (hm : behindInMarks .NotIn (.Name x p) = false := by first | exact nobehind _ (by decide) (by decide) | rfl) : DT X Y (.Compare e [.NotIn] [.Name x p] pos) (fun δ => (m δ).bind (inK tb true)) := by
  obtain ⟨d, es, n, hx, D, h0, h1⟩ := h.ex
  obtain ⟨t, pe, q⟩ := he
  refine ⟨_, pt_cmpR (op_notIn_kd D) pe (pe_glob (v := .ref d) hg hx rfl hdb) hm, fun σ δ H A c s Q w => dt_seq (Y := Y) q c s w fun dd v H1 t1 r1 w1 => ?_⟩
  cases r1 with
  | str z =>
    have w2 : WpT (Y.at σ) H1 (.ok (!(tb z).isSome)) Q := w1
    cases e : tb z with
    | none => rw [e] at w2; exact ⟨z, none, rfl, rfl, h0 z e, true, rfl, w2.here⟩
    | some y =>
      rw [e] at w2
      obtain ⟨u, v, k1, k2, k3⟩ := h1 z y e
      exact ⟨z, some u, rfl, rfl, k1, false, rfl, w2.here⟩
  | _ => exact w1.elim
end
/-! ## data of bools -/
theorem bools_inv : ∀ {xs : List D} {bs : List Bool}, boolsD xs = some bs → xs = bs.map PyData.bool
  | [], bs, h => by cases h; rfl
  | d :: xs, bs, h => by
    cases d with
    | bool b =>
      have h' : (boolsD xs).map (fun q => b :: q) = some bs := h
      cases e : boolsD xs with
      | none => rw [e] at h'; cases h'
      | some cs =>
        rw [e] at h'
        cases h'
        rw [bools_inv e]; rfl
    | _ => cases h
theorem chk_ok {α : Type} {n : Nat} {f : List D → R α} {ds : List D} (h : ds.length = n) : chk n f ds = f ds := by unfold chk; rw [decide_eq_true h]; rfl
theorem atI_in {xs : List D} {k : Int} (h0 : 0 ≤ k) (h : k < xs.length) (d : D) : atI xs k = some (xs.getD k.toNat d) := by
  unfold atI ixN
  rw [if_pos h0, if_pos h]
  show xs[k.toNat]? = _
  rw [List.getD_eq_getElem?_getD, List.getElem?_eq_getElem (by omega)]; rfl
theorem g_eqB {a b : Bool} : gEq (.bool a) (.bool b) = .ok (.bool (decide (a = b))) := by
  cases a <;> cases b <;> rfl
theorem shp_str {s : Str} : shp (.str s) = PyData.strOk s := by
  unfold shp SeqAt.shaped
  rw [show PyData.canLay0 (.str s) = PyData.strOk s by simp only [PyData.canLay0], show PyData.depth (.str s) = 0 by simp only [PyData.depth]]
  simp
theorem eqv_str {s t : Str} : PyData.eqv (.str s) (.str t) = decide (s = t) := by
  rw [show PyData.eqv (.str s) (.str t) = (s == t) by simp only [PyData.eqv]]
  by_cases h : s = t <;> simp [h]
theorem g_eqS {s t : Str} (hs : PyData.strOk s = true) (ht : PyData.strOk t = true) : gEq (.str s) (.str t) = .ok (.bool (decide (s = t))) := by
  unfold gEq
  rw [shp_str, shp_str, eqv_str, hs, ht]; rfl
/-! ## comprehensions -/
section
variable {vs : List Nat} {j : Nat} {mi me : DS → R D} {ms : DS → R (List D)} {mt : DS → R Bool} {δ : DS} {ds : List D}
def compK (vs : List Nat) (j : Nat) (mt : DS → R Bool) (me : DS → R D) (δ : DS) : D → R (List D) := fun d => match seqD d with
  | some ds => R.when (ltOk ds.length) (compM j mt me (wipeD δ vs) ds)
  | none => .bad
def rangeD (n : Nat) : List D := (List.range n).map fun i => .int (i : Nat)
def compRK (vs : List Nat) (j : Nat) (mt : DS → R Bool) (me : DS → R D) (δ : DS) : List D → R (List D) := fun ds => match ds with
  | [.int n] => R.when (decide (-(2 ^ 62) ≤ n ∧ n.toNat < sizeLine)) (compM j mt me (wipeD δ vs) (rangeD n.toNat))
  | _ => .bad
theorem q_comp : mComp vs j mi mt me δ = (mi δ).bind (compK vs j mt me δ) := (rfl)
theorem q_compL : compK vs j mt me δ (.list ds) = R.when (ltOk ds.length) (compM j mt me (wipeD δ vs) ds) := (rfl)
theorem q_compT : compK vs j mt me δ (.tuple ds) = R.when (ltOk ds.length) (compM j mt me (wipeD δ vs) ds) := (rfl)
theorem q_compR : mCompR vs j ms mt me δ = (ms δ).bind (compRK vs j mt me δ) := (rfl)
theorem q_compRI {n : Int} : compRK vs j mt me δ [.int n] = R.when (decide (-(2 ^ 62) ≤ n ∧ n.toNat < sizeLine)) (compM j mt me (wipeD δ vs) (rangeD n.toNat)) := (rfl)
theorem q_wipe1 : wipeD δ [j] = δ.set j none := (rfl)
theorem comp_map {f : D → D} : ∀ {xs : List D}, (∀ x ∈ xs, me (δ.set j (some x)) = .ok (f x)) → compM j mYes me δ xs = .ok (xs.map f)
  | [], _ => rfl
  | x :: xs, h => by
    have ih := comp_map (xs := xs) fun y hy => h y (List.mem_cons_of_mem _ hy)
    show (match me (δ.set j (some x)) with
      | .ok y => (compM j mYes me δ xs).map fun ys => y :: ys
      | _ => .bad) = _
    rw [h x List.mem_cons_self, ih]; rfl
theorem comp_range {f : Nat → D} {n : Nat} (h : ∀ i, i < n → me (δ.set j (some (.int (i : Nat)))) = .ok (f i)) : compM j mYes me δ (rangeD n) = .ok ((List.range n).map f) := by
  have g : ∀ xs : List Nat, (∀ i ∈ xs, i < n) → compM j mYes me δ (xs.map fun i : Nat => (PyData.int (i : Nat) : D)) = .ok (xs.map f) := fun xs => by
    induction xs with
    | nil => intro _; rfl
    | cons x xs ih =>
      intro hx
      show (match me (δ.set j (some (.int (x : Nat)))) with
        | .ok y => (compM j mYes me δ (xs.map fun i : Nat => (PyData.int (i : Nat) : D))).map fun ys => y :: ys
        | _ => .bad) = _
      rw [h x (hx x List.mem_cons_self), ih fun i hi => hx i (List.mem_cons_of_mem _ hi)]; rfl
  exact g _ fun i hi => List.mem_range.mp hi
theorem q_rep {ma : DS → R (List D)} {mb : DS → R D} : mRep ma mb δ = (ma δ).bind fun ds => (mb δ).bind fun y => match y with
  | .int k => R.when (repOk ds.length k) (.ok (List.replicate k.toNat ds).flatten)
  | _ => .bad := (rfl)
end
/-! ## data of ints -/
def intsD : List D → Option (List Int)
  | [] => some []
  | .int n :: ds => (intsD ds).map fun ns => n :: ns
  | _ => none
theorem ints_inv : ∀ {xs : List D} {ns : List Int}, intsD xs = some ns → xs = ns.map PyData.int
  | [], ns, h => by cases h; rfl
  | d :: xs, ns, h => by
    cases d with
    | int n =>
      have h' : (intsD xs).map (fun q => n :: q) = some ns := h
      cases e : intsD xs with
      | none => rw [e] at h'; cases h'
      | some cs =>
        rw [e] at h'
        cases h'
        rw [ints_inv e]; rfl
    | _ => cases h
theorem ints_of (ns : List Int) : intsD (ns.map PyData.int) = some ns := by
  induction ns with
  | nil => rfl
  | cons n ns ih => show (intsD (ns.map PyData.int)).map (fun q => n :: q) = _; rw [ih]; rfl
/-! ## one statement after the other -/
theorem cut {m n : DS → R Out} {δ : DS} {r : R D} (I : DS → Prop) (h : ∃ δ', m δ = .ok (.nx δ') ∧ I δ') (k : ∀ δ', I δ' → fin (n δ') = r) : fin (mSeq m n δ) = r := by
  obtain ⟨δ', e, i⟩ := h
  rw [q_seq, e]
  exact k δ' i
theorem cutR {m n : DS → R Out} {δ : DS} (δ' : DS) {r : R Out} (h : m δ = .ok (.nx δ')) (k : n δ' = r) : mSeq m n δ = r := by
  rw [q_seq, h]
  exact k
theorem range_eq {ms : DS → R (List D)} {n : Nat} : rangeD n = (List.range n).map fun i => .int (i : Nat) := rfl
/-! ## owned slots hidden, computed -/
def memB : Nat → List Nat → Bool
  | _, [] => false
  | k, o :: os => (k == o) || memB k os
theorem elem_memB (k : Nat) : ∀ O : List Nat, O.elem k = memB k O
  | [] => rfl
  | o :: os => by
    have ih := elem_memB k os
    show (match k == o with
      | true => true
      | false => os.elem k) = ((k == o) || memB k os)
    cases k == o with
    | true => rfl
    | false => exact ih
theorem q_hideM {O : List Nat} {k : Nat} {x : Option D} {r : DS} : hideF O k (x :: r) = (if memB k O = true then none else x) :: hideF O (k + 1) r := by
  rw [q_hideC, elem_memB]
theorem memB_nil {k : Nat} : memB k [] = false := (rfl)
theorem memB_cons {k o : Nat} {os : List Nat} : memB k (o :: os) = ((k == o) || memB k os) := (rfl)
/-! ## lists of bools: as data -/
theorem imms_bools (bs : List Bool) : imms (bs.map PyData.bool) = true := by
  induction bs with
  | nil => rfl
  | cons b bs ih => rw [List.map_cons, imms, ih]; rfl
theorem lay_bools (bs : List Bool) : PyData.canLayAll0 (bs.map PyData.bool) = true ∧ PyData.depthAll (bs.map PyData.bool) = 0 ∧ PyData.eqvAll (bs.map PyData.bool) (bs.map PyData.bool) = true := by
  induction bs with
  | nil => exact ⟨by simp only [List.map_nil, PyData.canLayAll0], by simp only [List.map_nil, PyData.depthAll], by simp only [List.map_nil, PyData.eqvAll]⟩
  | cons b bs ih =>
    rw [List.map_cons]
    refine ⟨?_, ?_, ?_⟩
    · rw [PyData.canLayAll0, ih.1, PyData.canLay0]; rfl
    · rw [PyData.depthAll, ih.2.1, PyData.depth]; rfl
    · rw [PyData.eqvAll, ih.2.2, PyData.eqv]; cases b <;> rfl
theorem shp_bools (bs : List Bool) : shp (.list (bs.map PyData.bool)) = true := by
  unfold shp SeqAt.shaped
  rw [PyData.canLay0, PyData.depth, (lay_bools bs).1, (lay_bools bs).2.1]; rfl
theorem g_eqBs (bs : List Bool) : gEq (.list (bs.map PyData.bool)) (.list (bs.map PyData.bool)) = .ok (.bool true) := by
  unfold gEq
  rw [shp_bools, PyData.eqv, (lay_bools bs).2.2]; rfl
theorem flat_rep {α : Type} (x : α) : ∀ n : Nat, (List.replicate n [x]).flatten = List.replicate n x
  | 0 => rfl
  | n + 1 => by rw [List.replicate_succ, List.flatten_cons, flat_rep x n]; rfl
def repK (ds : List D) : D → R (List D) := fun y => match y with
  | .int k => R.when (repOk ds.length k) (.ok (List.replicate k.toNat ds).flatten)
  | _ => .bad
theorem q_repK {ma : DS → R (List D)} {mb : DS → R D} {δ : DS} : mRep ma mb δ = (ma δ).bind fun ds => (mb δ).bind (repK ds) := (rfl)
theorem q_repI {ds : List D} {k : Int} : repK ds (.int k) = R.when (repOk ds.length k) (.ok (List.replicate k.toNat ds).flatten) := (rfl)
theorem ix_in {n : Nat} {k : Int} (h0 : 0 ≤ k) (h : k < n) : ixN n k = some k.toNat := by
  unfold ixN; rw [if_pos h0, if_pos h]
abbrev mL (m : DS → R (List D)) : DS → R D := fun δ => (m δ).map .list
abbrev mCatL (ma mb : DS → R D) : DS → R (List D) := fun δ => (ma δ).bind fun x => (mb δ).bind fun y => gCatL x y
def getK (tb : Str → Option D) : D → R D := fun d => match (strD d).bind tb with
  | some y => .ok y
  | none => .bad
theorem q_mL {m : DS → R (List D)} {δ : DS} : mL m δ = (m δ).map .list := (rfl)
theorem q_mcat {ma mb : DS → R D} {δ : DS} : mCatL ma mb δ = (ma δ).bind fun x => (mb δ).bind fun y => gCatL x y := (rfl)
theorem FnOk.tells {P : Program} {w : World} {K : PySem.W.Frag} {mg : Str → Option Value} {base : Heap} {cv : Nat → Value} {k : Nat} {f : Addr} {fd : FuncData} {ps : List Str} {g g' : List D → R D} (F : FnOk P w K mg base (L2.CX P w) k f fd ps (SpD K cv g)) (t : Tells g' g) :
    FnOk P w K mg base (L2.CX P w) k f fd ps (SpD K cv g') := F.imp fun vs H Q E ⟨A, ds, c, r, wq⟩ => ⟨A, ds, c, r, by
  rcases t ds with e | e
  · rw [e] at wq; exact wq.elim
  · rw [e]; exact wq⟩
end L2
namespace L2
open PySem PySem.Spec PyProof.Rows
section
variable {X : Cx} {Y : Wy} {O : List Nat}
/-! ## try: .. except X as n: return isinstance(n, ValueError) -/
def mTryIs (i : Nat) (m : DS → R Out) (p : Nat → Option Bool) : DS → R Out := fun δ => match m δ with
  | .ok (.ex k δ') => match p k with
    | some true => R.when (inB i δ') (.ok (.rt (.bool true)))
    | some false => .ok (.ex k δ')
    | none => .bad
  | r => r
/-- the errors with these numbers are values that isinstance knows -/
def IsErr (K : PySem.W.Frag) (v : Value) : Prop := ∃ D, v = .ref D ∧ ExcC K D ∧ PySem.W.kitOne K (.ref D) (.type "ValueError") = some true
theorem ds_tryIs {i : Nat} {x n : Str} {c : Value} {p : Nat → Option Bool} {body : List Stmt} {m : DS → R Out} {np p1 p2 p3 p4 p5 pos pos' : Pos} (h1 : X.stack = X.env :: X.outer) (hf : X.env.frame = some X.env.locals) (tk : Takes X Y.wx) (hN : X.N.Nodup) (hi : X.N[i]? = some n) (hln : X.env.kindOf n = some .local) (hv : Vis X.env.scope n)
    (hc : Names X x c) (hp : ∀ k b, p k = some b → PySem.W.exmOne X.K (Y.cv k) c = some b) (hE : ∀ k, p k = some true → IsErr X.K (Y.cv k))
    (hb : ∀ (W : WX) (pn : List (Addr × Obj)) (xe : Value → Shared → Prop), Takes (X.tr pn xe) W → PassesOwn (model X.prog X.w) X.A X.env xe → DSs (X.tr pn xe) (inTry Y W) O body m)
    (mi : X.mg "isinstance" = none) (mv : X.mg "ValueError" = none) (gi : Gl X "isinstance" := by rfl) (gv : Gl X "ValueError" := by rfl) (hd : (n == ("__debug__" : Str)) = false := by decide) (hcd : (n == ("__classdict__" : Str)) = false := by decide)
    (he : starEach [.Name n p2, .Name "ValueError" p3] X.env = [(false, eval (.Name n p2) X.env), (false, eval (.Name "ValueError" p3) X.env)] := by rfl) (he2 : starEach [.Name "ValueError" p3] X.env = [(false, eval (.Name "ValueError" p3) X.env)] := by rfl) (hpl : (backTo p4 (starEach [.Name "ValueError" p3] X.env)).any (·.1) = false := by rfl) :
    DSt X Y O (.Try body [.ExceptHandler (some (.Name x np)) (some n) [.Return (some (.Call (.Name "isinstance" p1) [.Name n p2, .Name "ValueError" p3] [] p4)) p5] pos'] [] [] pos) (mTryIs i m p) := by
  refine ⟨_, ps_try_as (i := i) (tb := fun W => canS X.K (inTry Y W) O m) (ts := fun a cls d => fun Dn σ H => σ[i]? = some (some (.ref a)) ∧ (d = none ∧ IsErr X.K cls) ∧ Dn.rt (.bl true) H) h1 hf hN hi hln hc tk (fun W pn xe t q => (hb W pn xe t q).can) (fun a oe cls d pn hz hff => ⟨fun pins s σ H Dn I h => ?_⟩), fun A0 T H0 σ δ H Dn s w => ⟨A0, T, H0, δ, s, ?_⟩⟩
  · obtain ⟨hs, ⟨hd0, D, hD, C, k⟩, q⟩ := h
    subst hd0
    subst hD
    refine (pss_one (ps_ret (pe_callB (call_isE C hz hff) gi mi (by decide +kernel) (pa_cons (pe_var hi hv hd hcd) (pa_cons (pe_bltn (v := .ty "ValueError") gv mv (u := .type "ValueError") (by decide +kernel) rfl (by decide) (by decide)) pa_nil (by rw [he2]; rfl)) (by rw [he, he2])) (by decide) (by decide) (by rw [he, he2]) hpl))).run pins s σ H Dn I ?_
    exact ⟨_, hs, .ty "ValueError", .type "ValueError", true, rfl, fun u r => r, k, q⟩
  · unfold mTryIs at w
    cases e : m δ with
    | bad => rw [e] at w; exact w
    | ex k => rw [e] at w; exact w
    | ok o =>
      rw [e] at w
      cases o with
      | ex k δ' =>
        refine fun σ' H' s' => ?_
        dsimp only at w
        cases e2 : p k with
        | none => rw [e2] at w; exact w.elim
        | some b =>
          rw [e2] at w
          refine ⟨b, hp k b e2, fun hb a _ => ?_, fun hb => ?_⟩
          · subst hb
            obtain ⟨hin, w⟩ := R.when_ok (fun r => WpS X.K Y A0 O T H0 r Dn) w id
            have hl : i < σ'.length := by rw [s'.len]; exact of_decide_eq_true hin
            exact ⟨List.getElem?_set_self hl, ⟨rfl, hE k e2⟩, w _ H' s'.same (.bl true)⟩
          · subst hb
            exact w σ' H' s'
      | _ => exact w
theorem q_tryIs {i : Nat} {m : DS → R Out} {p : Nat → Option Bool} {δ : DS} : mTryIs i m p δ = match m δ with
  | .ok (.ex k δ') => match p k with
    | some true => R.when (inB i δ') (.ok (.rt (.bool true)))
    | some false => .ok (.ex k δ')
    | none => .bad
  | r => r := (rfl)
end
/-! ## the texts of refusals -/
def fmtOk (z : Str) : Bool := PyData.strOk z && decide (z.length ≤ 1000)
theorem repr_small {z : Str} (h : fmtOk z = true) : (reprText z).length ≤ 10002 := by
  unfold fmtOk at h
  rw [Bool.and_eq_true] at h
  have hl := of_decide_eq_true h.2
  have hc : ∀ c ∈ z.cps.toList, c < 16 ^ 8 := fun c hc => by
    have a := h.1
    unfold PyData.strOk at a
    rw [← Array.all_toList, List.all_eq_true] at a
    have b := of_decide_eq_true (a c hc)
    omega
  have := StrLaws.reprText_len z hc
  omega
theorem sz_of' {n : Nat} (h : n ≤ 20000) : szOk n = true := decide_eq_true (Nat.le_trans h (by decide))
theorem fmtR_ok {z : Str} (h : fmtOk z = true) : gFmtR (.str z) = .ok (.str (reprText z)) := by
  have := repr_small h
  show R.when (szOk (reprText z).length) _ = _
  rw [sz_of' (by omega)]; rfl
theorem fmt_ok {z : Str} (h : fmtOk z = true) : gFmt (.str z) = .ok (.str z) := by
  unfold fmtOk at h
  rw [Bool.and_eq_true] at h
  have hl := of_decide_eq_true h.2
  show R.when (szOk z.length) _ = _
  rw [sz_of' (by omega)]; rfl
theorem int_small : ∀ n : Nat, n ≤ 20 → (toString (n : Int) : Str).length ≤ 20 ∧ ((n : Int).natAbs.log2 < 1920) := by decide +kernel
theorem js_nil {acc : Str} {δ : DS} : mJs [] acc δ = .ok (.str acc) := (rfl)
theorem js_cons {acc y : Str} {m : DS → R D} {ms : List (DS → R D)} {δ : DS} (h : m δ = .ok (.str y)) (hl : acc.length + y.length ≤ 20000) : mJs (m :: ms) acc δ = mJs ms (acc ++ y) δ := by
  show (m δ).bind _ = _
  rw [h]
  show R.when (szOk (acc ++ y).length) (mJs ms (acc ++ y) δ) = _
  rw [Str.length_append, sz_of' hl]; rfl
end L2
namespace L2
open PySem PySem.Spec PyProof.Rows
/-! ## more equations: texts, slices, try, loops -/
def mFmtR (m : DS → R D) : DS → R D := fun δ => (m δ).bind gFmtR
def mFmt (m : DS → R D) : DS → R D := fun δ => (m δ).bind gFmt
section
variable {δ : DS} {m ma mb : DS → R D}
theorem fmtR_at {z : Str} (h : m δ = .ok (.str z)) (hz : fmtOk z = true) : mFmtR m δ = .ok (.str (reprText z)) := by
  unfold mFmtR; rw [h]; exact fmtR_ok hz
theorem fmt_at {z : Str} (h : m δ = .ok (.str z)) (hz : fmtOk z = true) : mFmt m δ = .ok (.str z) := by
  unfold mFmt; rw [h]; exact fmt_ok hz
theorem fmtI_at {n : Nat} (h : m δ = .ok (.int n)) (hn : n ≤ 20) : mFmt m δ = .ok (.str (toString (n : Int))) := by
  unfold mFmt; rw [h]
  show R.when (decide ((n : Int).natAbs.log2 < 1920)) _ = _
  rw [decide_eq_true (int_small n hn).2]; rfl
theorem q_isN {b : Bool} {x : D} : gIsN b x .none = .ok (.bool (if b then !isNone x else isNone x)) := (rfl)
theorem isN_none : isNone .none = true := (rfl)
theorem isN_tup {xs : List D} : isNone (.tuple xs) = false := (rfl)
def ixK : Option Nat → R D
  | some c => .ok (.str ⟨#[c]⟩)
  | none => .bad
theorem g_ixS {z : Str} {i : Int} : gIx (.str z) (.int i) = R.when (szOk z.length) (ixK (atI z.cps.toList i)) := by
  unfold gIx
  dsimp only
  congr 1
theorem q_ixK {c : Nat} : ixK (some c) = .ok (.str ⟨#[c]⟩) := (rfl)
def partK : R D → R (Option Int)
  | .ok (.int i) => .ok (some i)
  | _ => .bad
theorem q_part : mPart m δ = partK (m δ) := (rfl)
theorem q_partK {i : Int} : partK (.ok (.int i)) = .ok (some i) := (rfl)
theorem q_noPart : mNoPart δ = .ok none := (rfl)
def slK (l h : R (Option Int)) : D → R D := fun d => match l.opt, h.opt with
  | some l, some h => gSlT d l h
  | _, _ => .bad
theorem q_sl {ml mh : DS → R (Option Int)} : mSlT m ml mh δ = (m δ).bind (slK (ml δ) (mh δ)) := (rfl)
theorem q_slK {l h : Option Int} {z : Str} : slK (.ok l) (.ok h) (.str z) = R.when (szOk z.length) (.ok (.str (cutS z l h))) := (rfl)
def tryK (hs : List Hd) : R Out → R Out
  | .ok (.ex n δ') => hand hs n δ'
  | r => r
theorem q_try {n : DS → R Out} {hs : List Hd} : mTry n hs δ = tryK hs (n δ) := by
  unfold mTry tryK
  cases n δ with
  | ok o => cases o <;> rfl
  | _ => rfl
theorem tryK_ex {hs : List Hd} {k : Nat} : tryK hs (.ok (.ex k δ)) = hand hs k δ := (rfl)
theorem tryK_nx {hs : List Hd} : tryK hs (.ok (.nx δ)) = .ok (.nx δ) := (rfl)
theorem tryK_rt {hs : List Hd} {d : D} : tryK hs (.ok (.rt d)) = .ok (.rt d) := (rfl)
def handK (h : DS → R Out) (r : List Hd) (n : Nat) (δ : DS) : Option Bool → R Out
  | some true => noEx (h δ)
  | some false => hand r n δ
  | none => .bad
theorem q_hand {p : Nat → Option Bool} {h : DS → R Out} {r : List Hd} {n : Nat} : hand ((p, h) :: r) n δ = handK h r n δ (p n) := (rfl)
theorem handK_t {h : DS → R Out} {r : List Hd} {n : Nat} : handK h r n δ (some true) = noEx (h δ) := (rfl)
theorem handK_f {h : DS → R Out} {r : List Hd} {n : Nat} : handK h r n δ (some false) = hand r n δ := (rfl)
theorem hand_nil {n : Nat} : hand [] n δ = .ok (.ex n δ) := (rfl)
theorem noEx_nx : noEx (.ok (.nx δ)) = .ok (.nx δ) := (rfl)
def tryIsK (i : Nat) (p : Nat → Option Bool) : R Out → R Out
  | .ok (.ex k δ') => match p k with
    | some true => R.when (inB i δ') (.ok (.rt (.bool true)))
    | some false => .ok (.ex k δ')
    | none => .bad
  | r => r
theorem q_tryIsK {i : Nat} {n : DS → R Out} {p : Nat → Option Bool} : mTryIs i n p δ = tryIsK i p (n δ) := by
  unfold mTryIs tryIsK
  cases n δ with
  | ok o => cases o <;> rfl
  | _ => rfl
theorem tryIsK_nx {i : Nat} {p : Nat → Option Bool} : tryIsK i p (.ok (.nx δ)) = .ok (.nx δ) := (rfl)
theorem tryIsK_ex {i k : Nat} {p : Nat → Option Bool} (h : p k = some true) : tryIsK i p (.ok (.ex k δ)) = R.when (inB i δ) (.ok (.rt (.bool true))) := by
  unfold tryIsK; dsimp only; rw [h]
theorem q_stN {i : Nat} {d : D} : stName i d δ = R.when (inB i δ) (.ok (δ.set i (some d))) := (rfl)
theorem loop_nil {st : D → DS → R DS} {n : DS → R Out} : loopM st n [] δ = .ok (.nx δ) := (rfl)
theorem loop_rt {st : D → DS → R DS} {n : DS → R Out} {x d : D} {xs : List D} {δ1 : DS} (h1 : st x δ = .ok δ1) (h2 : n δ1 = .ok (.rt d)) : loopM st n (x :: xs) δ = .ok (.rt d) := by
  unfold loopM; rw [h1]; dsimp only; rw [h2]
theorem loop_nx {st : D → DS → R DS} {n : DS → R Out} {x : D} {xs : List D} {δ1 δ2 : DS} (h1 : st x δ = .ok δ1) (h2 : n δ1 = .ok (.nx δ2)) : loopM st n (x :: xs) δ = loopM st n xs δ2 := by
  rw [loopM, h1]; dsimp only; rw [h2]
def forRK (st : D → DS → R DS) (n : DS → R Out) (δ : DS) : List D → R Out := fun ds => match ds with
  | [.int k] => R.when (decide (-(2 ^ 62) ≤ k ∧ k < 2 ^ 62)) (loopM st n (rangeD k.toNat) δ)
  | [.int a, .int b] => R.when (decide (-(2 ^ 62) ≤ a ∧ a < 2 ^ 62 ∧ -(2 ^ 62) ≤ b ∧ b < 2 ^ 62)) (loopM st n ((List.range (b - a).toNat).map fun i => .int (a + (i : Nat))) δ)
  | _ => .bad
theorem q_forR {st : D → DS → R DS} {n : DS → R Out} {ms : DS → R (List D)} : mForR ms st n δ = (ms δ).run δ (forRK st n δ) := (rfl)
theorem q_forRK1 {st : D → DS → R DS} {n : DS → R Out} {k : Int} : forRK st n δ [.int k] = R.when (decide (-(2 ^ 62) ≤ k ∧ k < 2 ^ 62)) (loopM st n (rangeD k.toNat) δ) := (rfl)
end
end L2
namespace K2
open PySem PySem.Spec PyProof.Rows L2
local macro_rules | `(tactic| walk_at "dl") => `(tactic| simp only [R.bind_ok, R.bind_bad, R.bind_ex, R.map_ok, R.map_bad, R.map_ex, R.run_ok, R.run_bad, R.run_ex, R.when_true, q_var, q_get, q_isN, isN_none, isN_tup, g_ixS, q_ixK, q_part, q_partK, q_noPart, q_sl, q_slK, q_try, tryK_ex, tryK_nx, tryK_rt, q_hand, handK_t, handK_f, hand_nil, noEx_nx, q_tryIsK, tryIsK_nx, q_c, q_bin, q_nil, q_cons, q_call, q_callN, q_tup, q_lst, q_B, q_boolD, q_not, q_and, q_or, q_andE, q_orE, q_notE, q_neg, q_andK, q_orK, q_notK, q_negK, q_ifE, q_seq, q_seqK, q_seqR, q_seqL, q_seqX, q_skip, q_if, q_set, q_setI, q_setNI, q_own, q_ownI, q_ret, q_retL, q_owned, q_ownV, q_retO, q_drop, q_app, q_appI, q_setAt, q_setAtI, q_put, q_putK, q_hideN, q_inB, q_fin, q_finL, q_finN, q_finX, q_finL', q_finLX, q_raise, g_cmp, g_addI, g_subI, g_mulI, g_modI, g_divI, g_addS, g_addL, g_addT, g_catL, g_ixL, g_ixT, g_atK, g_lenL, g_lenT, g_lenS, g_listL, g_listT, g_tupL, g_all, g_any, g_sum, bools_of, g_allK, g_anyK, g_sumK, g_eqI, g_eqB, q_asg, q_pair, q_mL, q_mcat, q_comp, q_compL, q_compT, q_compR, q_compRI, q_wipe1, q_repK, q_repI, q_hide, q_hide0, q_hideM, memB_nil, memB_cons, Nat.reduceBEq, Bool.or_false, Bool.false_or, Bool.or_true, Bool.true_or, List.map_cons, List.map_nil, decide_false, Nat.reduceEqDiff, reduceCtorEq, List.getElem?_cons_zero, List.getElem?_cons_succ, List.set_cons_zero, List.set_cons_succ, List.length_cons, List.length_nil, Nat.zero_add, Nat.reduceAdd, Nat.reduceLT, decide_true, Bool.and_true, Bool.true_and, if_true, decide_eq_true_eq, Bool.false_eq_true, if_false])
def topS (i : Nat) : Stmt := PySem.Challenge.pw_signalgraph_k02_kinds_and_sources.main.body.getD i (.Pass ⟨0, 0, 0, 0⟩)
abbrev N__yes : List Str := ["given"]
abbrev s__yes : Stmt := topS 5
theorem sc__yes : FnScope N__yes ["given"] (defScope s__yes) := ⟨rfl, rfl, rfl, by decide +kernel, rfl, by decide +kernel, by decide +kernel⟩
abbrev N__no : List Str := ["given"]
abbrev s__no : Stmt := topS 6
theorem sc__no : FnScope N__no ["given"] (defScope s__no) := ⟨rfl, rfl, rfl, by decide +kernel, rfl, by decide +kernel, by decide +kernel⟩
abbrev N__keep : List Str := ["given"]
abbrev s__keep : Stmt := topS 7
theorem sc__keep : FnScope N__keep ["given"] (defScope s__keep) := ⟨rfl, rfl, rfl, by decide +kernel, rfl, by decide +kernel, by decide +kernel⟩
abbrev N__not : List Str := ["given"]
abbrev s__not : Stmt := topS 8
theorem sc__not : FnScope N__not ["given"] (defScope s__not) := ⟨rfl, rfl, rfl, by decide +kernel, rfl, by decide +kernel, by decide +kernel⟩
abbrev N__both : List Str := ["given"]
abbrev s__both : Stmt := topS 9
theorem sc__both : FnScope N__both ["given"] (defScope s__both) := ⟨rfl, rfl, rfl, by decide +kernel, rfl, by decide +kernel, by decide +kernel⟩
abbrev N__either : List Str := ["given"]
abbrev s__either : Stmt := topS 10
theorem sc__either : FnScope N__either ["given"] (defScope s__either) := ⟨rfl, rfl, rfl, by decide +kernel, rfl, by decide +kernel, by decide +kernel⟩
abbrev N__unlike : List Str := ["given"]
abbrev s__unlike : Stmt := topS 11
theorem sc__unlike : FnScope N__unlike ["given"] (defScope s__unlike) := ⟨rfl, rfl, rfl, by decide +kernel, rfl, by decide +kernel, by decide +kernel⟩
abbrev N__pick : List Str := ["given"]
abbrev s__pick : Stmt := topS 12
theorem sc__pick : FnScope N__pick ["given"] (defScope s__pick) := ⟨rfl, rfl, rfl, by decide +kernel, rfl, by decide +kernel, by decide +kernel⟩
abbrev N__most : List Str := ["given"]
abbrev s__most : Stmt := topS 13
theorem sc__most : FnScope N__most ["given"] (defScope s__most) := ⟨rfl, rfl, rfl, by decide +kernel, rfl, by decide +kernel, by decide +kernel⟩
abbrev N_wants : List Str := ["kind"]
abbrev s_wants : Stmt := topS 16
theorem sc_wants : FnScope N_wants ["kind"] (defScope s_wants) := ⟨rfl, rfl, rfl, by decide +kernel, rfl, by decide +kernel, by decide +kernel⟩
abbrev N_check_number : List Str := ["kind", "number", "least", "greatest"]
abbrev s_check_number : Stmt := topS 17
theorem sc_check_number : FnScope N_check_number ["kind", "number"] (defScope s_check_number) := ⟨rfl, rfl, rfl, by decide +kernel, rfl, by decide +kernel, by decide +kernel⟩
abbrev N_answer : List Str := ["kind", "given", "rule"]
abbrev s_answer : Stmt := topS 18
theorem sc_answer : FnScope N_answer ["kind", "given"] (defScope s_answer) := ⟨rfl, rfl, rfl, by decide +kernel, rfl, by decide +kernel, by decide +kernel⟩
abbrev N__law_cell_at : List Str := ["_law_script", "_law_k"]
abbrev s__law_cell_at : Stmt := topS 20
theorem sc__law_cell_at : FnScope N__law_cell_at ["_law_script", "_law_k"] (defScope s__law_cell_at) := ⟨rfl, rfl, rfl, by decide +kernel, rfl, by decide +kernel, by decide +kernel⟩
abbrev N__law_whole : List Str := ["_law_found"]
abbrev s__law_whole : Stmt := topS 21
theorem sc__law_whole : FnScope N__law_whole ["_law_found"] (defScope s__law_whole) := ⟨rfl, rfl, rfl, by decide +kernel, rfl, by decide +kernel, by decide +kernel⟩
abbrev N__law_mixed : List Str := ["_law_cell", "_law_k", "_law_many", "_law_some"]
abbrev s__law_mixed : Stmt := topS 22
theorem sc__law_mixed : FnScope N__law_mixed ["_law_cell", "_law_k", "_law_many"] (defScope s__law_mixed) := ⟨rfl, rfl, rfl, by decide +kernel, rfl, by decide +kernel, by decide +kernel⟩
abbrev N__law_truths : List Str := ["_law_cell", "_law_many", "_law_k"]
abbrev s__law_truths : Stmt := topS 23
theorem sc__law_truths : FnScope N__law_truths ["_law_cell", "_law_many"] (defScope s__law_truths) := ⟨rfl, rfl, rfl, by decide +kernel, rfl, by decide +kernel, by decide +kernel⟩
abbrev N__law_kind_by : List Str := ["_law_cell", "_law_some", "_law_word_here", "_law_spot", "_law_sign"]
abbrev s__law_kind_by : Stmt := topS 24
theorem sc__law_kind_by : FnScope N__law_kind_by ["_law_cell"] (defScope s__law_kind_by) := ⟨rfl, rfl, rfl, by decide +kernel, rfl, by decide +kernel, by decide +kernel⟩
abbrev N__law_bounds : List Str := ["_law_kind", "_law_k"]
abbrev s__law_bounds : Stmt := topS 25
theorem sc__law_bounds : FnScope N__law_bounds ["_law_kind"] (defScope s__law_bounds) := ⟨rfl, rfl, rfl, by decide +kernel, rfl, by decide +kernel, by decide +kernel⟩
abbrev N__law_word : List Str := ["_law_kind", "_law_given", "_law_word_here", "_law_found"]
abbrev s__law_word : Stmt := topS 26
theorem sc__law_word : FnScope N__law_word ["_law_kind", "_law_given"] (defScope s__law_word) := ⟨rfl, rfl, rfl, by decide +kernel, rfl, by decide +kernel, by decide +kernel⟩
abbrev N__law_refused_by_any : List Str := ["_law_kind", "_law_given", "e"]
abbrev s__law_refused_by_any : Stmt := topS 27
theorem sc__law_refused_by_any : FnScope N__law_refused_by_any ["_law_kind", "_law_given"] (defScope s__law_refused_by_any) := ⟨rfl, rfl, rfl, by decide +kernel, rfl, by decide +kernel, by decide +kernel⟩
abbrev N_law : List Str := ["_law_script", "_law_kind", "_law_bounds_here", "_law_given", "_law_told", "_law_found"]
abbrev s_law : Stmt := topS 28
theorem sc_law : FnScope N_law ["_law_script"] (defScope s_law) := ⟨rfl, rfl, rfl, by decide +kernel, rfl, by decide +kernel, by decide +kernel⟩
/-! the kinds -/
def kindIx (z : Str) : Option Nat := if z = "yes" then some 0 else if z = "no" then some 1 else if z = "keep" then some 2 else if z = "not" then some 3 else if z = "both" then some 4 else if z = "either" then some 5 else if z = "unlike" then some 6
  else if z = "pick" then some 7 else if z = "most" then some 8 else none
def lo : Nat → Int
  | 0 => 0 | 1 => 0 | 2 => 1 | 3 => 1 | 4 => 2 | 5 => 2 | 6 => 2 | _ => 3
def hi : Nat → Int
  | 0 => 0 | 1 => 0 | 2 => 1 | 3 => 1 | 4 => 9 | 5 => 9 | 6 => 9 | _ => 3
def cnt (bs : List Bool) : Int := (bs.map numB).sum
def ansB : Nat → List Bool → Bool
  | 0, _ => true
  | 1, _ => false
  | 2, bs => bs.getD 0 false
  | 3, bs => !bs.getD 0 false
  | 4, bs => bs.all id
  | 5, bs => bs.any id
  | 6, bs => decide (cnt bs % 2 = 1)
  | 7, bs => if bs.getD 0 false = true then bs.getD 1 false else bs.getD 2 false
  | _, bs => decide (2 ≤ cnt bs)
def arOk (i : Nat) (n : Nat) : Bool := decide (lo i ≤ n ∧ (n : Int) ≤ hi i)
def boolL : D → Option (List Bool)
  | .list xs => boolsD xs
  | _ => none
def g_rule (i : Nat) : List D → R D
  | [d] => match boolL d with
    | some bs => R.when (arOk i bs.length) (.ok (.bool (ansB i bs)))
    | none => .bad
  | _ => .bad
theorem tell_rule {i : Nat} {g : List D → R D} (h : ∀ bs : List Bool, arOk i bs.length = true → g [.list (bs.map PyData.bool)] = .ok (.bool (ansB i bs))) : Tells (g_rule i) g := fun ds => by
  unfold g_rule
  split
  · rename_i d
    split
    · rename_i bs e
      cases d with
      | list xs =>
        have e2 := bools_inv (show boolsD xs = some bs from e)
        subst e2
        cases q : arOk i bs.length with
        | true => exact .inr (h bs q)
        | false => exact .inl rfl
      | _ => cases e
    · exact .inl rfl
  · exact .inl rfl
theorem atB {bs : List Bool} {k : Nat} (h : k < bs.length) : atI (bs.map PyData.bool) (k : Int) = some (.bool (bs.getD k false)) := by
  rw [atI_in (by omega) (by rw [List.length_map]; omega) (.bool false)]
  rw [Int.toNat_natCast, List.getD_eq_getElem?_getD, List.getElem?_map, List.getD_eq_getElem?_getD, List.getElem?_eq_getElem h]; rfl
theorem ar_eq {i n : Nat} (h : arOk i n = true) : lo i ≤ n ∧ (n : Int) ≤ hi i := of_decide_eq_true h
section
variable {P : Program} {w : World} {K : PySem.W.Frag} {mg : Str → Option Value} {base : Heap} {cv : Nat → Value} {f : Addr} {fd : FuncData}
def g_cell : List D → R D
  | [.list xs, .int k] => R.when (decide (0 ≤ k)) (.ok (xs.getD k.toNat (.int 0)))
  | _ => .bad
theorem h__law_cell_at (F : Fun K "_law_cell_at" "_law_cell_at" s__law_cell_at f fd) (mf : mg "_law_cell_at" = some (.ref f)) (bd : Binds K fd ["_law_script", "_law_k"] []) (m_len : mg "len" = none) : Has P w K mg base cv "_law_cell_at" ["_law_script", "_law_k"] 1 g_cell := by
  have nd := sc__law_cell_at.nd
  refine Has.imp (has_D [] F mf bd sc__law_cell_at (by decide) (fun cdv A outer s H E hr => (dss_cons (ds_if (dt_cmp op_lt dop_cmp (de_var 1) (de_callB call_lenD2 dc_len (by rfl) m_len PySem.boot_len (da_cons (de_var 0) da_nil))) (dss_one (ds_ret (de_ix ix_any dop_ix (de_var 0) (de_var 1)))) dss_nil)
      (dss_one (ds_ret de_int))))) fun ds => ?_
  unfold g_cell
  split
  · rename_i xs k
    by_cases h0 : 0 ≤ k
    · rw [decide_eq_true h0, R.when_true]
      refine .inr ?_
      rw [chk_ok (by rfl), show startD N__law_cell_at [.list xs, .int k] = [some (.list xs), some (.int k)] from rfl]
      walk_at "dl"
      by_cases hk : k < (xs.length : Int)
      · rw [if_pos hk, atI_in h0 hk (.int 0)]
        walk_at "dl"
      · rw [if_neg hk]
        walk_at "dl"
        rw [List.getD_eq_getElem?_getD, List.getElem?_eq_none (by omega)]; rfl
    · rw [decide_eq_false h0]; exact .inl rfl
  · exact .inl rfl
theorem h__yes (F : Fun K "_yes" "_yes" s__yes f fd) (mf : mg "_yes" = some (.ref f)) (bd : Binds K fd ["given"] []) : Has P w K mg base cv "_yes" ["given"] 1 (g_rule 0) := by
  have nd := sc__yes.nd
  refine Has.imp (has_D [] F mf bd sc__yes (by decide) (fun cdv A outer s H E hr => (dss_one (ds_ret de_bl)))) (tell_rule fun bs hb => ?_)
  rw [chk_ok (by rfl), show startD N__yes [.list (bs.map PyData.bool)] = [some (.list (bs.map PyData.bool))] from rfl]
  walk_at "dl"
  rfl
theorem h__no (F : Fun K "_no" "_no" s__no f fd) (mf : mg "_no" = some (.ref f)) (bd : Binds K fd ["given"] []) : Has P w K mg base cv "_no" ["given"] 1 (g_rule 1) := by
  have nd := sc__no.nd
  refine Has.imp (has_D [] F mf bd sc__no (by decide) (fun cdv A outer s H E hr => (dss_one (ds_ret de_bl)))) (tell_rule fun bs hb => ?_)
  rw [chk_ok (by rfl), show startD N__no [.list (bs.map PyData.bool)] = [some (.list (bs.map PyData.bool))] from rfl]
  walk_at "dl"
  rfl
theorem h__keep (F : Fun K "_keep" "_keep" s__keep f fd) (mf : mg "_keep" = some (.ref f)) (bd : Binds K fd ["given"] []) : Has P w K mg base cv "_keep" ["given"] 1 (g_rule 2) := by
  have nd := sc__keep.nd
  refine Has.imp (has_D [] F mf bd sc__keep (by decide) (fun cdv A outer s H E hr => (dss_one (ds_ret (de_ix ix_any dop_ix (de_var 0) de_int))))) (tell_rule fun bs hb => ?_)
  rw [chk_ok (by rfl), show startD N__keep [.list (bs.map PyData.bool)] = [some (.list (bs.map PyData.bool))] from rfl]
  have h := ar_eq hb
  have a0 := atB (bs := bs) (k := 0) (by simp only [lo, hi] at h; omega)
  walk_at "dl"
  rw [show ((0 : Nat) : Int) = 0 from rfl] at a0
  rw [a0]
  walk_at "dl"
  rfl
theorem h__not (F : Fun K "_not" "_not" s__not f fd) (mf : mg "_not" = some (.ref f)) (bd : Binds K fd ["given"] []) : Has P w K mg base cv "_not" ["given"] 1 (g_rule 3) := by
  have nd := sc__not.nd
  refine Has.imp (has_D [] F mf bd sc__not (by decide) (fun cdv A outer s H E hr => (dss_one (ds_ret (de_not (de_ix ix_any dop_ix (de_var 0) de_int)))))) (tell_rule fun bs hb => ?_)
  rw [chk_ok (by rfl), show startD N__not [.list (bs.map PyData.bool)] = [some (.list (bs.map PyData.bool))] from rfl]
  have h := ar_eq hb
  have a0 := atB (bs := bs) (k := 0) (by simp only [lo, hi] at h; omega)
  walk_at "dl"
  rw [show ((0 : Nat) : Int) = 0 from rfl] at a0
  rw [a0]
  walk_at "dl"
  rfl
theorem h__both (F : Fun K "_both" "_both" s__both f fd) (mf : mg "_both" = some (.ref f)) (bd : Binds K fd ["given"] []) (m_all : mg "all" = none) : Has P w K mg base cv "_both" ["given"] 1 (g_rule 4) := by
  have nd := sc__both.nd
  refine Has.imp (has_D [] F mf bd sc__both (by decide) (fun cdv A outer s H E hr => (dss_one (ds_ret (de_callB (cr_all rfl) dc_all (by rfl) m_all (by decide +kernel) (da_cons (de_var 0) da_nil)))))) (tell_rule fun bs hb => ?_)
  rw [chk_ok (by rfl), show startD N__both [.list (bs.map PyData.bool)] = [some (.list (bs.map PyData.bool))] from rfl]
  walk_at "dl"
  rfl
theorem h__either (F : Fun K "_either" "_either" s__either f fd) (mf : mg "_either" = some (.ref f)) (bd : Binds K fd ["given"] []) (m_any : mg "any" = none) : Has P w K mg base cv "_either" ["given"] 1 (g_rule 5) := by
  have nd := sc__either.nd
  refine Has.imp (has_D [] F mf bd sc__either (by decide) (fun cdv A outer s H E hr => (dss_one (ds_ret (de_callB (cr_any rfl) dc_any (by rfl) m_any (by decide +kernel) (da_cons (de_var 0) da_nil)))))) (tell_rule fun bs hb => ?_)
  rw [chk_ok (by rfl), show startD N__either [.list (bs.map PyData.bool)] = [some (.list (bs.map PyData.bool))] from rfl]
  walk_at "dl"
  rfl
theorem h__unlike (F : Fun K "_unlike" "_unlike" s__unlike f fd) (mf : mg "_unlike" = some (.ref f)) (bd : Binds K fd ["given"] []) (m_sum : mg "sum" = none) : Has P w K mg base cv "_unlike" ["given"] 1 (g_rule 6) := by
  have nd := sc__unlike.nd
  refine Has.imp (has_D [] F mf bd sc__unlike (by decide) (fun cdv A outer s H E hr => (dss_one (ds_ret (de_cmp (op_eqD hr.units) dop_eq (de_op op_mod dop_mod (de_callB (cr_sumB rfl) dc_sumB (by rfl) m_sum (by decide +kernel) (da_cons (de_var 0) da_nil)) de_int) de_int))))) (tell_rule fun bs hb => ?_)
  rw [chk_ok (by rfl), show startD N__unlike [.list (bs.map PyData.bool)] = [some (.list (bs.map PyData.bool))] from rfl]
  walk_at "dl"
  rw [show modOk (bs.map numB).sum 2 = true from rfl]
  walk_at "dl"
  rfl
theorem h__pick (F : Fun K "_pick" "_pick" s__pick f fd) (mf : mg "_pick" = some (.ref f)) (bd : Binds K fd ["given"] []) : Has P w K mg base cv "_pick" ["given"] 1 (g_rule 7) := by
  have nd := sc__pick.nd
  refine Has.imp (has_D [] F mf bd sc__pick (by decide) (fun cdv A outer s H E hr => (dss_one (ds_ret (de_ifExp (dt_val (de_ix ix_any dop_ix (de_var 0) de_int)) (de_ix ix_any dop_ix (de_var 0) de_int) (de_ix ix_any dop_ix (de_var 0) de_int)))))) (tell_rule fun bs hb => ?_)
  rw [chk_ok (by rfl), show startD N__pick [.list (bs.map PyData.bool)] = [some (.list (bs.map PyData.bool))] from rfl]
  have h := ar_eq hb
  have a0 := atB (bs := bs) (k := 0) (by simp only [lo, hi] at h; omega)
  have a1 := atB (bs := bs) (k := 1) (by simp only [lo, hi] at h; omega)
  have a2 := atB (bs := bs) (k := 2) (by simp only [lo, hi] at h; omega)
  rw [show ((0 : Nat) : Int) = 0 from rfl] at a0
  rw [show ((1 : Nat) : Int) = 1 from rfl] at a1
  rw [show ((2 : Nat) : Int) = 2 from rfl] at a2
  walk_at "dl"
  rw [a0, a1, a2]
  walk_at "dl"
  show _ = R.ok (PyData.bool (if bs.getD 0 false = true then bs.getD 1 false else bs.getD 2 false))
  cases bs.getD 0 false
  · rw [if_neg Bool.false_ne_true, if_neg Bool.false_ne_true]; rfl
  · rw [if_pos rfl, if_pos rfl]; rfl
theorem h__most (F : Fun K "_most" "_most" s__most f fd) (mf : mg "_most" = some (.ref f)) (bd : Binds K fd ["given"] []) (m_sum : mg "sum" = none) : Has P w K mg base cv "_most" ["given"] 1 (g_rule 8) := by
  have nd := sc__most.nd
  refine Has.imp (has_D [] F mf bd sc__most (by decide) (fun cdv A outer s H E hr => (dss_one (ds_ret (de_cmp op_ge dop_cmp (de_callB (cr_sumB rfl) dc_sumB (by rfl) m_sum (by decide +kernel) (da_cons (de_var 0) da_nil)) de_int))))) (tell_rule fun bs hb => ?_)
  rw [chk_ok (by rfl), show startD N__most [.list (bs.map PyData.bool)] = [some (.list (bs.map PyData.bool))] from rfl]
  walk_at "dl"
  rfl
theorem ok_kinds : PyData.strOk "yes" = true ∧ PyData.strOk "no" = true ∧ PyData.strOk "keep" = true ∧ PyData.strOk "not" = true ∧ PyData.strOk "both" = true ∧ PyData.strOk "either" = true ∧ PyData.strOk "unlike" = true ∧ PyData.strOk "pick" = true ∧ PyData.strOk "most" = true := by decide +kernel
/-- the kind with the number i -/
def kd (i : Nat) : Str := (["yes", "no", "keep", "not", "both", "either", "unlike", "pick", "most"] : List Str).getD i "yes"
theorem kd_ix : ∀ i, i < 9 → kindIx (kd i) = some i := by decide +kernel
theorem kd_ok : ∀ i, i < 9 → PyData.strOk (kd i) = true := by decide +kernel
theorem kd_inj : ∀ i, i < 9 → ∀ j, j < 9 → decide (kd i = kd j) = decide (i = j) := by decide +kernel
theorem eq_kd {i j : Nat} (hi : i < 9) (hj : j < 9) : gEq (.str (kd i)) (.str (kd j)) = .ok (.bool (decide (i = j))) := by
  rw [g_eqS (kd_ok i hi) (kd_ok j hj), kd_inj i hi j hj]
theorem ix_lt {z : Str} {i : Nat} (h : kindIx z = some i) : i < 9 := by
  unfold kindIx at h
  repeat' (split at h; · cases h; decide)
  cases h
/-! wants, check_number, answer -/
theorem kd_find {z : Str} {i : Nat} (h : kindIx z = some i) : kd i = z := by
  unfold kindIx at h
  repeat' (split at h; · cases h; rename_i e; rw [e]; rfl)
  cases h
theorem kd_miss {z : Str} (h : kindIx z = none) : ∀ i, i < 9 → kd i ≠ z := fun i hi e => by
  rw [← e, kd_ix i hi] at h; cases h
theorem kd_fmt : ∀ i, i < 9 → fmtOk (kd i) = true := by decide +kernel
def tbN (z : Str) : Option D := (kindIx z).map fun i => .tuple [.int (lo i), .int (hi i)]
def tbR (z : Str) : Option (List D → R D) := (kindIx z).map g_rule
def g_wants : List D → R D
  | [.str z] => match kindIx z with
    | some i => .ok (.tuple [.int (lo i), .int (hi i)])
    | none => R.when (fmtOk z) (.ex 0)
  | _ => .bad
def m_wants : DS → R Out :=
  (mSeq (mIf (fun δ => ((mVar 0) δ).bind (inK tbN true)) (mRaiseD 0 (mCons (mJs [(mFmtR (mVar 0)), (mC (.str " is no kind of gate"))] Str.empty) mNil)) mSkip)
    (mRet (fun δ => ((mVar 0) δ).bind (getK tbN))))
theorem h_wants (F : Fun K "wants" "wants" s_wants f fd) (mf : mg "wants" = some (.ref f)) (bd : Binds K fd ["kind"] []) (t_NUMBERS : TabD K w mg "NUMBERS" tbN) (x_NoKind : ExcAt K mg cv "NoKind" 0) : Has P w K mg base cv "wants" ["kind"] 1 g_wants := by
  have nd := sc_wants.nd
  refine Has.imp (has_D (m := m_wants) [] F mf bd sc_wants (by decide) (fun cdv A outer s H E hr => (dss_cons (ds_if (dt_notInTab t_NUMBERS (de_var 0)) (dss_one (ds_raiseA x_NoKind rfl (takes_of rfl rfl rfl rfl) (da_cons (de_fstr (FJ.cons (de_fmtR (de_var 0)) (FJ.cons de_str FJ.nil))) da_nil))) dss_nil)
      (dss_one (ds_ret (de_getTab t_NUMBERS (de_var 0))))))) fun ds => ?_
  unfold g_wants
  split
  · rename_i z
    split
    · rename_i i e
      refine .inr ?_
      rw [chk_ok (by rfl), show startD N_wants [.str z] = [some (.str z)] from rfl]
      unfold m_wants
      walk_at "dl"
      rw [show inK tbN true (.str z) = .ok false by show R.ok (if true = true then !(tbN z).isSome else (tbN z).isSome) = _; unfold tbN; rw [e]; rfl]
      walk_at "dl"
      rw [show getK tbN (.str z) = .ok (.tuple [.int (lo i), .int (hi i)]) by unfold getK; rw [show (strD (.str z)).bind tbN = some (.tuple [.int (lo i), .int (hi i)]) by show tbN z = _; unfold tbN; rw [e]; rfl]]
      rfl
    · rename_i e
      cases hz : fmtOk z with
      | false => exact .inl rfl
      | true =>
        refine .inr ?_
        rw [chk_ok (by rfl), show startD N_wants [.str z] = [some (.str z)] from rfl]
        have hr := repr_small hz
        have hj : mJs [mFmtR (mVar 0), mC (.str " is no kind of gate")] Str.empty [some (.str z)] = .ok (.str (Str.empty ++ reprText z ++ " is no kind of gate")) := by
          rw [js_cons (y := reprText z) (fmtR_at rfl hz) (by rw [show Str.empty.length = 0 from rfl]; omega), js_cons (y := " is no kind of gate") rfl (by rw [Str.length_append, show Str.empty.length = 0 from rfl, show (" is no kind of gate" : Str).length = 19 from rfl]; omega), js_nil]
        unfold m_wants
        walk_at "dl"
        rw [show inK tbN true (.str z) = .ok true by show R.ok (if true = true then !(tbN z).isSome else (tbN z).isSome) = _; unfold tbN; rw [e]; rfl]
        walk_at "dl"
        rw [hj]
        rfl
  · exact .inl rfl
def g_check : List D → R D
  | [.str z, .int n] => match kindIx z with
    | some i => if lo i ≤ n ∧ n ≤ hi i then .ok .none else R.when (decide (0 ≤ n ∧ n ≤ 20)) (.ex 1)
    | none => R.when (fmtOk z) (.ex 0)
  | _ => .bad
def m_check_number : DS → R Out :=
  (mSeq (mAsg [] (stPair 2 3) (mCall g_wants (mCons (mVar 0) mNil)))
    (mIf (mOr (mB (mBin (gCmp fun i j => decide (i < j)) (mVar 1) (mVar 2))) (mB (mBin (gCmp fun i j => decide (j < i)) (mVar 1) (mVar 3)))) (mRaiseD 1 (mCons (mJs [(mC (.str "a gate of the kind ")), (mFmt (mVar 0)), (mC (.str " does not take ")), (mFmt (mVar 1)), (mC (.str " sources"))] Str.empty) mNil)) mSkip))
theorem h_check_number (F : Fun K "check_number" "check_number" s_check_number f fd) (mf : mg "check_number" = some (.ref f)) (bd : Binds K fd ["kind", "number"] []) (h_wants : Has P w K mg base cv "wants" ["kind"] 1 g_wants) (x_NoSources : ExcAt K mg cv "NoSources" 1) : Has P w K mg base cv "check_number" ["kind", "number"] 2 g_check := by
  have nd := sc_check_number.nd
  refine Has.imp (has_D (m := m_check_number) [] F mf bd sc_check_number (by decide) (fun cdv A outer s H E hr => (dss_cons (ds_asg (dg_pair (i := 2) (j := 3) rfl nd rfl rfl (Or.inl rfl) (Or.inl rfl)) (de_has h_wants hr (pass_def rfl rfl rfl rfl) (da_cons (de_var 0) da_nil)))
      (dss_one (ds_if (dt_w (dw_or (dt_cmp op_lt dop_cmp (de_var 1) (de_var 2)) (dw_one (dt_cmp op_gt dop_cmp (de_var 1) (de_var 3))))) (dss_one (ds_raiseA x_NoSources rfl (takes_of rfl rfl rfl rfl) (da_cons (de_fstr (FJ.cons de_str (FJ.cons (de_fmt (de_var 0)) (FJ.cons de_str (FJ.cons (de_fmt (de_var 1)) (FJ.cons de_str FJ.nil)))))) da_nil))) dss_nil))))) fun ds => ?_
  unfold g_check
  split
  · rename_i z n
    split
    · rename_i i e
      have hw : g_wants [.str z] = .ok (.tuple [.int (lo i), .int (hi i)]) := by unfold g_wants; dsimp only; rw [e]
      by_cases hn : lo i ≤ n ∧ n ≤ hi i
      · rw [if_pos hn]
        refine .inr ?_
        rw [chk_ok (by rfl), show startD N_check_number [.str z, .int n] = [some (.str z), some (.int n), none, none] from rfl]
        unfold m_check_number
        walk_at "dl"
        rw [hw]
        walk_at "dl"
        rw [if_neg (show ¬ n < lo i by omega), decide_eq_false (show ¬ hi i < n by omega)]
        walk_at "dl"
      · rw [if_neg hn]
        by_cases h20 : 0 ≤ n ∧ n ≤ 20
        · rw [decide_eq_true h20, R.when_true]
          refine .inr ?_
          obtain ⟨k, rfl⟩ : ∃ k : Nat, n = (k : Int) := ⟨n.toNat, by omega⟩
          have hz : fmtOk z = true := by rw [← kd_find e]; exact kd_fmt i (ix_lt e)
          have hzl : z.length ≤ 1000 := by
            unfold fmtOk at hz; rw [Bool.and_eq_true] at hz; exact of_decide_eq_true hz.2
          have hk := (int_small k (by omega)).1
          rw [chk_ok (by rfl), show startD N_check_number [.str z, .int (k : Int)] = [some (.str z), some (.int (k : Int)), none, none] from rfl]
          have hj : mJs [mC (.str "a gate of the kind "), mFmt (mVar 0), mC (.str " does not take "), mFmt (mVar 1), mC (.str " sources")] Str.empty [some (.str z), some (.int (k : Int)), some (.int (lo i)), some (.int (hi i))]
              = .ok (.str (Str.empty ++ "a gate of the kind " ++ z ++ " does not take " ++ toString (k : Int) ++ " sources")) := by
            have l1 : ("a gate of the kind " : Str).length = 19 := rfl
            have l2 : (" does not take " : Str).length = 15 := rfl
            have l3 : (" sources" : Str).length = 8 := rfl
            have l0 : Str.empty.length = 0 := rfl
            rw [js_cons (y := "a gate of the kind ") rfl (by omega), js_cons (y := z) (fmt_at rfl hz) (by rw [Str.length_append]; omega), js_cons (y := " does not take ") rfl (by rw [Str.length_append, Str.length_append]; omega),
              js_cons (y := toString (k : Int)) (fmtI_at rfl (by omega)) (by rw [Str.length_append, Str.length_append, Str.length_append]; omega), js_cons (y := " sources") rfl (by rw [Str.length_append, Str.length_append, Str.length_append, Str.length_append]; omega), js_nil]
          unfold m_check_number
          walk_at "dl"
          rw [hw]
          walk_at "dl"
          by_cases h1 : (k : Int) < lo i
          · rw [if_pos h1]
            walk_at "dl"
            rw [hj]
            rfl
          · rw [if_neg h1, decide_eq_true (show hi i < (k : Int) by omega)]
            walk_at "dl"
            rw [hj]
            rfl
        · rw [decide_eq_false h20]; exact .inl rfl
    · rename_i e
      cases hz : fmtOk z with
      | false => exact .inl rfl
      | true =>
        refine .inr ?_
        have hw : g_wants [.str z] = .ex 0 := by unfold g_wants; dsimp only; rw [e]; dsimp only; rw [hz]; rfl
        rw [chk_ok (by rfl), show startD N_check_number [.str z, .int n] = [some (.str z), some (.int n), none, none] from rfl]
        unfold m_check_number
        walk_at "dl"
        rw [hw]
        walk_at "dl"
  · exact .inl rfl
def g_answer : List D → R D
  | [.str z, .list xs] => match boolsD xs with
    | some bs => match kindIx z with
      | some i => if arOk i bs.length = true then .ok (.bool (ansB i bs)) else R.when (decide (bs.length ≤ 20)) (.ex 1)
      | none => R.when (fmtOk z) (.ex 0)
    | none => .bad
  | _ => .bad
theorem h_answer (F : Fun K "answer" "answer" s_answer f fd) (mf : mg "answer" = some (.ref f)) (bd : Binds K fd ["kind", "given"] []) (h_check_number : Has P w K mg base cv "check_number" ["kind", "number"] 2 g_check) (t_RULES : TabF P w K mg base cv "RULES" 1 tbR) (m_len : mg "len" = none) : Has P w K mg base cv "answer" ["kind", "given"] 3 g_answer := by
  have nd := sc_answer.nd
  refine Has.imp (has_D [] F mf bd sc_answer (by decide) (fun cdv A outer s H E hr => (dss_cons (ds_expr (de_has h_check_number hr (pass_def rfl rfl rfl rfl) (da_cons (de_var 0) (da_cons (de_callB call_lenD2 dc_len (by rfl) m_len PySem.boot_len (da_cons (de_var 1) da_nil)) da_nil))))
      (dss_tabF (i := 2) t_RULES hr (by decide) (pass_def rfl rfl rfl rfl) nd rfl (Or.inl rfl) (Or.inl rfl) (de_var 0) (da_cons (de_var 1) da_nil))))) fun ds => ?_
  unfold g_answer
  split
  · rename_i z xs
    split
    · rename_i bs e2
      have e3 := bools_inv e2
      subst e3
      have hst : startD N_answer [.str z, .list (bs.map PyData.bool)] = [some (.str z), some (.list (bs.map PyData.bool)), none] := rfl
      split
      · rename_i i e
        by_cases hb : arOk i bs.length = true
        · rw [if_pos hb]
          refine .inr ?_
          have h := ar_eq hb
          rw [chk_ok (by rfl), hst]
          walk_at "dl"
          rw [show g_check [.str z, .int ((bs.map PyData.bool).length : Int)] = .ok .none by
            unfold g_check; dsimp only; rw [e]; dsimp only; rw [List.length_map, if_pos h]]
          walk_at "dl"
          unfold mTabF
          walk_at "dl"
          rw [show (strD (.str z)).bind tbR = some (g_rule i) by show tbR z = _; unfold tbR; rw [e]; rfl]
          dsimp only
          rw [show g_rule i [.list (bs.map PyData.bool)] = .ok (.bool (ansB i bs)) by
            unfold g_rule; dsimp only [boolL]; rw [bools_of]; dsimp only; rw [hb]; rfl]
          rfl
        · rw [if_neg hb]
          by_cases h20 : bs.length ≤ 20
          · rw [decide_eq_true h20, R.when_true]
            refine .inr ?_
            rw [chk_ok (by rfl), hst]
            walk_at "dl"
            rw [show g_check [.str z, .int ((bs.map PyData.bool).length : Int)] = .ex 1 by
              unfold g_check; dsimp only; rw [e]; dsimp only; rw [List.length_map, if_neg (fun q => hb (decide_eq_true q)), decide_eq_true (by omega)]; rfl]
            walk_at "dl"
          · rw [decide_eq_false h20]; exact .inl rfl
      · rename_i e
        cases hz : fmtOk z with
        | false => exact .inl rfl
        | true =>
          refine .inr ?_
          rw [chk_ok (by rfl), hst]
          walk_at "dl"
          rw [show g_check [.str z, .int ((bs.map PyData.bool).length : Int)] = .ex 0 by
            unfold g_check; dsimp only; rw [e]; dsimp only; rw [hz]; rfl]
          walk_at "dl"
    · exact .inl rfl
  · exact .inl rfl
end
end K2
namespace K2
open PySem PySem.Spec PyProof.Rows L2
local macro_rules | `(tactic| walk_at "dl") => `(tactic| simp only [R.bind_ok, R.bind_bad, R.bind_ex, R.map_ok, R.map_bad, R.map_ex, R.run_ok, R.run_bad, R.run_ex, R.when_true, q_var, q_get, q_isN, isN_none, isN_tup, g_ixS, q_ixK, q_part, q_partK, q_noPart, q_sl, q_slK, q_try, tryK_ex, tryK_nx, tryK_rt, q_hand, handK_t, handK_f, hand_nil, noEx_nx, q_tryIsK, tryIsK_nx, q_c, q_bin, q_nil, q_cons, q_call, q_callN, q_tup, q_lst, q_B, q_boolD, q_not, q_and, q_or, q_andE, q_orE, q_notE, q_neg, q_andK, q_orK, q_notK, q_negK, q_ifE, q_seq, q_seqK, q_seqR, q_seqL, q_seqX, q_skip, q_if, q_set, q_setI, q_setNI, q_own, q_ownI, q_ret, q_retL, q_owned, q_ownV, q_retO, q_drop, q_app, q_appI, q_setAt, q_setAtI, q_put, q_putK, q_hideN, q_inB, q_fin, q_finL, q_finN, q_finX, q_finL', q_finLX, q_raise, g_cmp, g_addI, g_subI, g_mulI, g_modI, g_divI, g_addS, g_addL, g_addT, g_catL, g_ixL, g_ixT, g_atK, g_lenL, g_lenT, g_lenS, g_listL, g_listT, g_tupL, g_all, g_any, g_sum, bools_of, g_allK, g_anyK, g_sumK, g_eqI, g_eqB, q_asg, q_pair, q_mL, q_mcat, q_comp, q_compL, q_compT, q_compR, q_compRI, q_wipe1, q_repK, q_repI, q_hide, q_hide0, q_hideM, memB_nil, memB_cons, Nat.reduceBEq, Bool.or_false, Bool.false_or, Bool.or_true, Bool.true_or, List.map_cons, List.map_nil, decide_false, Nat.reduceEqDiff, reduceCtorEq, List.getElem?_cons_zero, List.getElem?_cons_succ, List.set_cons_zero, List.set_cons_succ, List.length_cons, List.length_nil, Nat.zero_add, Nat.reduceAdd, Nat.reduceLT, decide_true, Bool.and_true, Bool.true_and, if_true, decide_eq_true_eq, Bool.false_eq_true, if_false])
section
variable {P : Program} {w : World} {K : PySem.W.Frag} {mg : Str → Option Value} {base : Heap} {cv : Nat → Value} {f : Addr} {fd : FuncData}
def cell (ns : List Int) (k : Nat) : Int := ns.getD k 0
theorem cell_at (ns : List Int) (k : Nat) : g_cell [.list (ns.map PyData.int), .int (k : Int)] = .ok (.int (cell ns k)) := by
  show R.when (decide (0 ≤ (k : Int))) (.ok ((ns.map PyData.int).getD k (.int 0))) = _
  rw [decide_eq_true (by omega), R.when_true]
  unfold cell
  rw [List.getD_eq_getElem?_getD, List.getD_eq_getElem?_getD, List.getElem?_map]
  cases ns[k]? <;> rfl
theorem kinds_at : ∀ i : Nat, i < 9 → atI ([.str "yes", .str "no", .str "keep", .str "not", .str "both", .str "either", .str "unlike", .str "pick", .str "most"] : List D) (i : Int) = some (.str (kd i))
  | 0, _ => rfl | 1, _ => rfl | 2, _ => rfl | 3, _ => rfl | 4, _ => rfl | 5, _ => rfl | 6, _ => rfl | 7, _ => rfl | 8, _ => rfl
  | n + 9, h => by omega
theorem lo_pos (i : Nat) : 0 ≤ lo i := by unfold lo; split <;> decide
theorem hi_le (i : Nat) : hi i ≤ 9 := by unfold hi; split <;> decide
theorem lo_hi (i : Nat) : lo i ≤ hi i := by
  unfold lo
  split <;> first | (show _ ≤ _; decide) | (rename_i h0 h1 h2 h3 h4 h5 h6; unfold hi; split <;> first | decide | (exfalso; first | exact h0 rfl | exact h1 rfl | exact h2 rfl | exact h3 rfl | exact h4 rfl | exact h5 rfl | exact h6 rfl))

def g_whole : List D → R D
  | [.int _] => .ok (.bool true)
  | _ => .bad
theorem h__law_whole (F : Fun K "_law_whole" "_law_whole" s__law_whole f fd) (mf : mg "_law_whole" = some (.ref f)) (bd : Binds K fd ["_law_found"] []) (m_isinstance : mg "isinstance" = none) (m_int : mg "int" = none) (m_bool : mg "bool" = none) : Has P w K mg base cv "_law_whole" ["_law_found"] 1 g_whole := by
  have nd := sc__law_whole.nd
  refine Has.imp (has_D [] F mf bd sc__law_whole (by decide) (fun cdv A outer s H E hr => (dss_one (ds_ret (de_and (de_isi (T := "int") (by rfl) m_isinstance (by rfl) m_int (by decide +kernel) (de_var 0)) (de_one (de_not (de_isi (T := "bool") (by rfl) m_isinstance (by rfl) m_bool (by decide +kernel) (de_var 0))))))))) fun ds => ?_
  unfold g_whole
  split
  · rename_i n
    refine .inr ?_
    rw [chk_ok (by rfl), show startD N__law_whole [.int n] = [some (.int n)] from rfl]
    rfl
  · exact .inl rfl
def tbl : Nat → Int
  | 0 => 99991 | 1 => 99989 | 2 => 99971 | 3 => 99961 | 4 => 99929 | 5 => 99923 | 6 => 99907 | 7 => 99901 | 8 => 99881 | 9 => 99877 | _ => 99871
theorem tbl_pos (k : Nat) : 0 < tbl k := by unfold tbl; split <;> decide
theorem tbl_at : ∀ i : Nat, i < 11 → atI ([.int 99991, .int 99989, .int 99971, .int 99961, .int 99929, .int 99923, .int 99907, .int 99901, .int 99881, .int 99877, .int 99871] : List D) (i : Int) = some (.int (tbl i))
  | 0, _ => rfl | 1, _ => rfl | 2, _ => rfl | 3, _ => rfl | 4, _ => rfl | 5, _ => rfl | 6, _ => rfl | 7, _ => rfl | 8, _ => rfl | 9, _ => rfl | 10, _ => rfl
  | n + 11, h => by omega
def mixed (c k m : Int) : Int := (c + 7 * k) * 48271 % tbl (k % 11).toNat % m
theorem mixed_in {c k m : Int} (h : 0 < m) : 0 ≤ mixed c k m ∧ mixed c k m < m := ⟨Int.emod_nonneg _ (by omega), Int.emod_lt_of_pos _ h⟩
def g_mixed : List D → R D
  | [.int c, .int k, .int m] => R.when (decide (0 ≤ k ∧ 0 < m)) (.ok (.int (mixed c k m)))
  | _ => .bad
theorem mixed_ev {c k m : Int} (h : 0 ≤ k) (hm : 0 < m) : g_mixed [.int c, .int k, .int m] = .ok (.int (mixed c k m)) := by
  show R.when (decide (0 ≤ k ∧ 0 < m)) (R.ok (PyData.int (mixed c k m))) = _
  rw [decide_eq_true ⟨h, hm⟩]; rfl
theorem h__law_mixed (F : Fun K "_law_mixed" "_law_mixed" s__law_mixed f fd) (mf : mg "_law_mixed" = some (.ref f)) (bd : Binds K fd ["_law_cell", "_law_k", "_law_many"] []) : Has P w K mg base cv "_law_mixed" ["_law_cell", "_law_k", "_law_many"] 1 g_mixed := by
  have nd := sc__law_mixed.nd
  refine Has.imp (has_D [] F mf bd sc__law_mixed (by decide) (fun cdv A outer s H E hr => (dss_cons (ds_set (i := 3) nd rfl (Or.inl rfl) (DN.de (dn_lst (da_cons de_int (da_cons de_int (da_cons de_int (da_cons de_int (da_cons de_int (da_cons de_int (da_cons de_int (da_cons de_int (da_cons de_int (da_cons de_int (da_cons de_int da_nil))))))))))))))
      (dss_one (ds_ret (de_op op_mod dop_mod (de_op op_mod dop_mod (de_op op_mul dop_mul (de_op op_addD dop_add (de_var 0) (de_op op_mul dop_mul de_int (de_var 1))) de_int) (de_ix ix_any dop_ix (de_var 3) (de_op op_mod dop_mod (de_var 1) de_int))) (de_var 2))))))) fun ds => ?_
  unfold g_mixed
  split
  · rename_i c k m
    by_cases h : 0 ≤ k ∧ 0 < m
    · rw [decide_eq_true h, R.when_true]
      refine .inr ?_
      rw [chk_ok (by rfl), show startD N__law_mixed [.int c, .int k, .int m] = [some (.int c), some (.int k), some (.int m), none] from rfl]
      obtain ⟨i, hi, ei⟩ : ∃ i : Nat, i < 11 ∧ k % 11 = (i : Int) := ⟨(k % 11).toNat, by omega, by omega⟩
      have m1 : mulOk 7 k = true := decide_eq_true (.inl (by decide))
      have m2 : mulOk (c + 7 * k) 48271 = true := decide_eq_true (.inr (by decide))
      have m3 : modOk k 11 = true := rfl
      have m4 : modOk ((c + 7 * k) * 48271) (tbl i) = true := decide_eq_true (tbl_pos i)
      have m5 : ∀ a, modOk a m = true := fun a => decide_eq_true h.2
      have sz : szOk 11 = true := by decide
      repeat (first | simp only [m1, m2, m3, m4, m5, sz, ei, tbl_at i hi] | walk_at "dl")
      unfold mixed
      rw [ei]; rfl
    · rw [decide_eq_false h]; exact .inl rfl
  · exact .inl rfl
def truths (c : Int) (n : Nat) : List Bool := (List.range n).map fun k => decide (mixed c (k : Nat) 2 = 1)
theorem truths_len (c : Int) (n : Nat) : (truths c n).length = n := by unfold truths; rw [List.length_map, List.length_range]
def g_truths : List D → R D
  | [.int c, .int n] => R.when (decide (0 ≤ n ∧ n ≤ 1000)) (.ok (.list ((truths c n.toNat).map PyData.bool)))
  | _ => .bad
theorem h__law_truths (F : Fun K "_law_truths" "_law_truths" s__law_truths f fd) (mf : mg "_law_truths" = some (.ref f)) (bd : Binds K fd ["_law_cell", "_law_many"] []) (h__law_mixed : Has P w K mg base cv "_law_mixed" ["_law_cell", "_law_k", "_law_many"] 1 g_mixed) (m_range : mg "range" = none) : Has P w K mg base cv "_law_truths" ["_law_cell", "_law_many"] 2 g_truths := by
  have nd := sc__law_truths.nd
  refine Has.imp (has_D [] F mf bd sc__law_truths (by decide) (fun cdv A outer s H E hr => (dss_one (ds_ret (DN.de (dn_compR (own := [("_law_k", 2)]) rfl nd (by rfl) m_range (de_var 1) (blkOk_by (N := N__law_truths) (sc := defScope s__law_truths) (by decide +kernel)) (fun _ _ _ _ _ => pg_name (i := 2) nd rfl (Or.inl rfl)) (fun _ _ _ _ _ => dts_nil) (fun _ _ _ _ _ => (de_cmp (op_eqD hr.units) dop_eq (de_has h__law_mixed hr (pass_blk rfl) (da_cons (de_var 0) (da_cons (de_var 2) (da_cons de_int da_nil)))) de_int)) (fun _ _ => wipe_one))))))) fun ds => ?_
  unfold g_truths
  split
  · rename_i c n
    by_cases h : 0 ≤ n ∧ n ≤ 1000
    · rw [decide_eq_true h, R.when_true]
      refine .inr ?_
      obtain ⟨n, rfl⟩ : ∃ k : Nat, n = (k : Int) := ⟨n.toNat, by omega⟩
      rw [chk_ok (by rfl), show startD N__law_truths [.int c, .int (n : Int)] = [some (.int c), some (.int (n : Int)), none] from rfl]
      walk_at "dl"
      rw [decide_eq_true (show -(2 ^ 62) ≤ (n : Int) ∧ (n : Int).toNat < sizeLine from ⟨by omega, by rw [Int.toNat_natCast]; exact small1000 (by omega)⟩), Int.toNat_natCast, R.when_true]
      rw [comp_range (f := fun k => .bool (decide (mixed c (k : Nat) 2 = 1))) fun k hk => ?_]
      · unfold truths
        rw [List.map_map]; rfl
      · repeat (first | simp only [mixed_ev (show (0 : Int) ≤ (k : Nat) by omega) (show (0 : Int) < 2 by decide)] | walk_at "dl")
    · rw [decide_eq_false h]; exact .inl rfl
  · exact .inl rfl
/-! the words -/
def wd (i : Nat) : Str := (["yes", "no", "keep", "not", "both", "either", "unlike", "pick", "most", "", "Yes", "and", "or", "keeps", " not", "both ", "NO", "mos", "kind", "in", "by"] : List Str).getD i ""
theorem words_at : ∀ i : Nat, i < 21 → atI ([.str "yes", .str "no", .str "keep", .str "not", .str "both", .str "either", .str "unlike", .str "pick", .str "most", .str "", .str "Yes", .str "and", .str "or", .str "keeps", .str " not", .str "both ", .str "NO", .str "mos", .str "kind", .str "in", .str "by"] : List D) (i : Int) = some (.str (wd i))
  | 0, _ => rfl | 1, _ => rfl | 2, _ => rfl | 3, _ => rfl | 4, _ => rfl | 5, _ => rfl | 6, _ => rfl | 7, _ => rfl | 8, _ => rfl | 9, _ => rfl | 10, _ => rfl
  | 11, _ => rfl | 12, _ => rfl | 13, _ => rfl | 14, _ => rfl | 15, _ => rfl | 16, _ => rfl | 17, _ => rfl | 18, _ => rfl | 19, _ => rfl | 20, _ => rfl
  | n + 21, h => by omega
theorem wd_kd : ∀ i, i < 9 → wd i = kd i := by decide +kernel
theorem wd_fmt : ∀ i, i < 21 → fmtOk (wd i) = true := by decide +kernel
theorem kd_len : ∀ i, i < 9 → 0 < (kd i).length ∧ (kd i).length ≤ 6 := by decide +kernel
def alph : Str := "abcdefghijklmnopqrstuvwxyz"
def sg (g : Nat) : Str := ⟨#[97 + g]⟩
theorem alph_at : ∀ g : Nat, g < 26 → atI alph.cps.toList (g : Int) = some (97 + g) := by decide +kernel
def lft (i s : Nat) : Str := cutS (kd i) none (some (s : Int))
def rgt (i a : Nat) : Str := cutS (kd i) (some (a : Int)) none
theorem lft_ok : ∀ i, i < 9 → ∀ s, s < 6 → (lft i s).length ≤ 6 := by decide +kernel
theorem rgt_ok : ∀ i, i < 9 → ∀ s, s < 7 → (rgt i s).length ≤ 6 := by decide +kernel
theorem sg_len (g : Nat) : (sg g).length = 1 := rfl
theorem mut_fmt : ∀ i, i < 9 → ∀ s, s < 6 → ∀ g, g < 26 → ∀ a, a < 2 → fmtOk (lft i s ++ sg g ++ rgt i (s + a)) = true := by decide +kernel
def kw (c : Int) : Str :=
  if c % 30 < 21 then wd (c % 30).toNat
  else
    let i := (c % 30 - 21).toNat
    let s := (c / 30 % ((kd i).length : Int)).toNat
    lft i s ++ sg (mixed c 1 26).toNat ++ rgt i (s + (mixed c 2 2).toNat)
theorem kw_fmt (c : Int) : fmtOk (kw c) = true := by
  unfold kw
  split
  · exact wd_fmt _ (by omega)
  · have hi : (c % 30 - 21).toNat < 9 := by omega
    have hl := kd_len _ hi
    have h1 := mixed_in (c := c) (k := 1) (m := 26) (by decide)
    have h2 := mixed_in (c := c) (k := 2) (m := 2) (by decide)
    have h3 : 0 ≤ c / 30 % ((kd (c % 30 - 21).toNat).length : Int) ∧ c / 30 % ((kd (c % 30 - 21).toNat).length : Int) < ((kd (c % 30 - 21).toNat).length : Int) := ⟨Int.emod_nonneg _ (by omega), Int.emod_lt_of_pos _ (by omega)⟩
    exact mut_fmt _ hi _ (by omega) _ (by omega) _ (by omega)
def g_kindby : List D → R D
  | [.int c] => .ok (.str (kw c))
  | _ => .bad
theorem h__law_kind_by (F : Fun K "_law_kind_by" "_law_kind_by" s__law_kind_by f fd) (mf : mg "_law_kind_by" = some (.ref f)) (bd : Binds K fd ["_law_cell"] []) (h__law_mixed : Has P w K mg base cv "_law_mixed" ["_law_cell", "_law_k", "_law_many"] 1 g_mixed) (m_len : mg "len" = none) : Has P w K mg base cv "_law_kind_by" ["_law_cell"] 2 g_kindby := by
  have nd := sc__law_kind_by.nd
  refine Has.imp (has_D [] F mf bd sc__law_kind_by (by decide) (fun cdv A outer s H E hr => (dss_cons (ds_set (i := 1) nd rfl (Or.inl rfl) (DN.de (dn_lst (da_cons de_str (da_cons de_str (da_cons de_str (da_cons de_str (da_cons de_str (da_cons de_str (da_cons de_str (da_cons de_str (da_cons de_str da_nil))))))))))))
      (dss_cons (ds_set (i := 1) nd rfl (Or.inl rfl) (de_op op_addD dop_add (de_var 1) (DN.de (dn_lst (da_cons de_str (da_cons de_str (da_cons de_str (da_cons de_str (da_cons de_str (da_cons de_str (da_cons de_str (da_cons de_str (da_cons de_str (da_cons de_str (da_cons de_str (da_cons de_str da_nil))))))))))))))))
      (dss_cons (ds_if (dt_cmp op_lt dop_cmp (de_op op_mod dop_mod (de_var 0) de_int) de_int) (dss_one (ds_ret (de_ix ix_any dop_ix (de_var 1) (de_op op_mod dop_mod (de_var 0) de_int)))) dss_nil)
      (dss_cons (ds_set (i := 2) nd rfl (Or.inl rfl) (de_ix ix_any dop_ix (de_var 1) (de_op op_sub dop_sub (de_op op_mod dop_mod (de_var 0) de_int) de_int)))
      (dss_cons (ds_set (i := 3) nd rfl (Or.inl rfl) (de_op op_mod dop_mod (de_op op_fdiv dop_div (de_var 0) de_int) (de_callB call_lenD2 dc_len (by rfl) m_len PySem.boot_len (da_cons (de_var 2) da_nil))))
      (dss_cons (ds_set (i := 4) nd rfl (Or.inl rfl) (de_ix ix_any dop_ix de_str (de_has h__law_mixed hr (pass_def rfl rfl rfl rfl) (da_cons (de_var 0) (da_cons de_int (da_cons de_int da_nil))))))
      (dss_one (ds_ret (de_op op_addD dop_add (de_op op_addD dop_add (de_slice (de_var 2) do_none (do_some (de_var 3))) (de_var 4)) (de_slice (de_var 2) (do_some (de_op op_addD dop_add (de_var 3) (de_has h__law_mixed hr (pass_def rfl rfl rfl rfl) (da_cons (de_var 0) (da_cons de_int (da_cons de_int da_nil)))))) do_none)))))))))))) fun ds => ?_
  unfold g_kindby
  split
  · rename_i c
    refine .inr ?_
    rw [chk_ok (by rfl), show startD N__law_kind_by [.int c] = [some (.int c), none, none, none, none] from rfl]
    have m30 : ∀ a, modOk a 30 = true := fun _ => rfl
    have d30 : ∀ a, divOk a 30 = true := fun _ => rfl
    have sz9 : szOk 9 = true := by decide
    have sz12 : szOk 12 = true := by decide
    have sz21 : szOk 21 = true := by decide
    unfold kw
    refine cut (fun δ => δ = [some (.int c), some (.list [.str "yes", .str "no", .str "keep", .str "not", .str "both", .str "either", .str "unlike", .str "pick", .str "most"]), none, none, none]) ⟨_, ?_, rfl⟩ fun δ h => ?_
    · repeat (first | simp only [sz9] | walk_at "dl")
    subst h
    refine cut (fun δ => δ = [some (.int c), some (.list [.str "yes", .str "no", .str "keep", .str "not", .str "both", .str "either", .str "unlike", .str "pick", .str "most", .str "", .str "Yes", .str "and", .str "or", .str "keeps", .str " not", .str "both ", .str "NO", .str "mos", .str "kind", .str "in", .str "by"]), none, none, none]) ⟨_, ?_, rfl⟩ fun δ h => ?_
    · repeat (first | simp only [sz12, sz21, List.cons_append, List.nil_append] | walk_at "dl")
    subst h
    by_cases h21 : c % 30 < 21
    · obtain ⟨i, hi, ei⟩ : ∃ i : Nat, i < 21 ∧ c % 30 = (i : Int) := ⟨(c % 30).toNat, by omega, by omega⟩
      rw [if_pos h21, ei, Int.toNat_natCast]
      have hi' : (i : Int) < 21 := by omega
      repeat (first | simp only [m30, ei, hi', words_at i hi] | walk_at "dl")
    · obtain ⟨i, hi, ei⟩ : ∃ i : Nat, i < 9 ∧ c % 30 - 21 = (i : Int) := ⟨(c % 30 - 21).toNat, by omega, by omega⟩
      rw [if_neg h21]
      simp only [ei, Int.toNat_natCast]
      have hl := kd_len i hi
      have wi := words_at i (by omega)
      rw [wd_kd i hi] at wi
      obtain ⟨s, hs, es⟩ : ∃ s : Nat, s < (kd i).length ∧ c / 30 % ((kd i).length : Int) = (s : Int) := by
        have h3 : 0 ≤ c / 30 % ((kd i).length : Int) ∧ c / 30 % ((kd i).length : Int) < ((kd i).length : Int) := ⟨Int.emod_nonneg _ (by omega), Int.emod_lt_of_pos _ (by omega)⟩
        exact ⟨(c / 30 % ((kd i).length : Int)).toNat, by omega, by omega⟩
      have h1 := mixed_in (c := c) (k := 1) (m := 26) (by decide)
      have h2 := mixed_in (c := c) (k := 2) (m := 2) (by decide)
      obtain ⟨g, hg, eg⟩ : ∃ g : Nat, g < 26 ∧ mixed c 1 26 = (g : Int) := ⟨(mixed c 1 26).toNat, by omega, by omega⟩
      obtain ⟨a, ha, ea⟩ : ∃ a : Nat, a < 2 ∧ mixed c 2 2 = (a : Int) := ⟨(mixed c 2 2).toNat, by omega, by omega⟩
      rw [es, eg, ea, Int.toNat_natCast, Int.toNat_natCast, Int.toNat_natCast]
      have x1 : g_mixed [.int c, .int 1, .int 26] = .ok (.int (g : Int)) := by rw [mixed_ev (by decide) (by decide), eg]
      have x2 : g_mixed [.int c, .int 2, .int 2] = .ok (.int (a : Int)) := by rw [mixed_ev (by decide) (by decide), ea]
      have ll := lft_ok i hi s (by omega)
      have lr := rgt_ok i hi (s + a) (by omega)
      have mk : ∀ b, modOk b ((kd i).length : Int) = true := fun b => decide_eq_true (by omega)
      have szk : szOk (kd i).length = true := sz_of' (by omega)
      have sza : szOk alph.length = true := by decide +kernel
      have es2 : ((s : Int) + (a : Int)) = ((s + a : Nat) : Int) := by omega
      have h21' : ¬ c % 30 < 21 := h21
      have al := alph_at g hg
      have szb : szOk ((lft i s).length + (sg g).length) = true := sz_of' (by rw [sg_len]; omega)
      have szc : szOk ((lft i s ++ sg g).length + (rgt i (s + a)).length) = true := sz_of' (by rw [Str.length_append, sg_len]; omega)
      have al2 : (PyData.str "abcdefghijklmnopqrstuvwxyz") = .str alph := rfl
      have fl : cutS (kd i) none (some (s : Int)) = lft i s := rfl
      have fr : cutS (kd i) (some ((s + a : Nat) : Int)) none = rgt i (s + a) := rfl
      have fs : (⟨#[97 + g]⟩ : Str) = sg g := rfl
      repeat (first | simp only [m30, d30, ei, wi, h21', mk, szk, es, x1, x2, al2, sza, al, es2, fl, fr, fs, szb, szc] | walk_at "dl")
  · exact .inl rfl
end
end K2
namespace K2
open PySem PySem.Spec PyProof.Rows L2
local macro_rules | `(tactic| walk_at "dl") => `(tactic| simp only [R.bind_ok, R.bind_bad, R.bind_ex, R.map_ok, R.map_bad, R.map_ex, R.run_ok, R.run_bad, R.run_ex, R.when_true, q_var, q_get, Bool.not_true, Bool.not_false, q_isN, isN_none, isN_tup, g_ixS, q_ixK, q_part, q_partK, q_noPart, q_sl, q_slK, q_try, tryK_ex, tryK_nx, tryK_rt, q_hand, handK_t, handK_f, hand_nil, noEx_nx, q_tryIsK, tryIsK_nx, q_c, q_bin, q_nil, q_cons, q_call, q_callN, q_tup, q_lst, q_B, q_boolD, q_not, q_and, q_or, q_andE, q_orE, q_notE, q_neg, q_andK, q_orK, q_notK, q_negK, q_ifE, q_seq, q_seqK, q_seqR, q_seqL, q_seqX, q_skip, q_if, q_set, q_setI, q_setNI, q_own, q_ownI, q_ret, q_retL, q_owned, q_ownV, q_retO, q_drop, q_app, q_appI, q_setAt, q_setAtI, q_put, q_putK, q_hideN, q_inB, q_fin, q_finL, q_finN, q_finX, q_finL', q_finLX, q_raise, g_cmp, g_addI, g_subI, g_mulI, g_modI, g_divI, g_addS, g_addL, g_addT, g_catL, g_ixL, g_ixT, g_atK, g_lenL, g_lenT, g_lenS, g_listL, g_listT, g_tupL, g_all, g_any, g_sum, bools_of, g_allK, g_anyK, g_sumK, g_eqI, g_eqB, q_asg, q_pair, q_mL, q_mcat, q_comp, q_compL, q_compT, q_compR, q_compRI, q_wipe1, q_repK, q_repI, q_hide, q_hide0, q_hideM, memB_nil, memB_cons, Nat.reduceBEq, Bool.or_false, Bool.false_or, Bool.or_true, Bool.true_or, List.map_cons, List.map_nil, decide_false, Nat.reduceEqDiff, reduceCtorEq, List.getElem?_cons_zero, List.getElem?_cons_succ, List.set_cons_zero, List.set_cons_succ, List.length_cons, List.length_nil, Nat.zero_add, Nat.reduceAdd, Nat.reduceLT, decide_true, Bool.and_true, Bool.true_and, if_true, decide_eq_true_eq, Bool.false_eq_true, if_false])
section
variable {P : Program} {w : World} {K : PySem.W.Frag} {mg : Str → Option Value} {base : Heap} {cv : Nat → Value} {f : Addr} {fd : FuncData} {c_NoKind c_NoSources c_SignalError : Value}

def p_NoKind : Nat → Option Bool
  | 0 => some true | 1 => some false | _ => none
def p_NoSources : Nat → Option Bool
  | 0 => some false | 1 => some true | _ => none
def p_SignalError : Nat → Option Bool
  | 0 => some true | 1 => some true | _ => none
def bnd (i : Nat) : D := .tuple [.int (lo i), .int (hi i)]
theorem bnds_at : ∀ i : Nat, i < 9 → atI ([.tuple [.int 0, .int 0], .tuple [.int 0, .int 0], .tuple [.int 1, .int 1], .tuple [.int 1, .int 1], .tuple [.int 2, .int 9], .tuple [.int 2, .int 9], .tuple [.int 2, .int 9], .tuple [.int 3, .int 3], .tuple [.int 3, .int 3]] : List D) (i : Int) = some (bnd i)
  | 0, _ => rfl | 1, _ => rfl | 2, _ => rfl | 3, _ => rfl | 4, _ => rfl | 5, _ => rfl | 6, _ => rfl | 7, _ => rfl | 8, _ => rfl
  | n + 9, h => by omega
def boundsOf (z : Str) : D := match kindIx z with
  | some i => bnd i
  | none => .none
def g_bounds : List D → R D
  | [.str z] => R.when (PyData.strOk z) (.ok (boundsOf z))
  | _ => .bad
def m__law_bounds : DS → R Out :=
  (mSeq (mForR (mCons (mC (.int 9)) mNil) (stName 1) (mIf (mB (mBin gEq (mVar 0) (mBin gIx (mL (mLst (mCons (mC (.str "yes")) (mCons (mC (.str "no")) (mCons (mC (.str "keep")) (mCons (mC (.str "not")) (mCons (mC (.str "both")) (mCons (mC (.str "either")) (mCons (mC (.str "unlike")) (mCons (mC (.str "pick")) (mCons (mC (.str "most")) mNil))))))))))) (mVar 1)))) (mRet (mBin gIx (mL (mLst (mCons (mTup (mCons (mC (.int 0)) (mCons (mC (.int 0)) mNil))) (mCons (mTup (mCons (mC (.int 0)) (mCons (mC (.int 0)) mNil))) (mCons (mTup (mCons (mC (.int 1)) (mCons (mC (.int 1)) mNil))) (mCons (mTup (mCons (mC (.int 1)) (mCons (mC (.int 1)) mNil))) (mCons (mTup (mCons (mC (.int 2)) (mCons (mC (.int 9)) mNil))) (mCons (mTup (mCons (mC (.int 2)) (mCons (mC (.int 9)) mNil))) (mCons (mTup (mCons (mC (.int 2)) (mCons (mC (.int 9)) mNil))) (mCons (mTup (mCons (mC (.int 3)) (mCons (mC (.int 3)) mNil))) (mCons (mTup (mCons (mC (.int 3)) (mCons (mC (.int 3)) mNil))) mNil))))))))))) (mVar 1))) mSkip))
    (mRet (mC .none)))
theorem h__law_bounds (F : Fun K "_law_bounds" "_law_bounds" s__law_bounds f fd) (mf : mg "_law_bounds" = some (.ref f)) (bd : Binds K fd ["_law_kind"] []) (m_range : mg "range" = none) : Has P w K mg base cv "_law_bounds" ["_law_kind"] 1 g_bounds := by
  have nd := sc__law_bounds.nd
  refine Has.imp (has_D (m := m__law_bounds) [] F mf bd sc__law_bounds (by decide) (fun cdv A outer s H E hr => (dss_cons (ds_forR1 (passes_of rfl) rfl (by rfl) m_range (da_cons de_int da_nil) (dg_name (i := 1) nd rfl (Or.inl rfl)) (dss_one (ds_if (dt_cmp (op_eqD hr.units) dop_eq (de_var 0) (de_ix ix_any dop_ix (DN.de (dn_lst (da_cons de_str (da_cons de_str (da_cons de_str (da_cons de_str (da_cons de_str (da_cons de_str (da_cons de_str (da_cons de_str (da_cons de_str da_nil))))))))))) (de_var 1))) (dss_one (ds_ret (de_ix ix_any dop_ix (DN.de (dn_lst (da_cons (de_tup (da_cons de_int (da_cons de_int da_nil))) (da_cons (de_tup (da_cons de_int (da_cons de_int da_nil))) (da_cons (de_tup (da_cons de_int (da_cons de_int da_nil))) (da_cons (de_tup (da_cons de_int (da_cons de_int da_nil))) (da_cons (de_tup (da_cons de_int (da_cons de_int da_nil))) (da_cons (de_tup (da_cons de_int (da_cons de_int da_nil))) (da_cons (de_tup (da_cons de_int (da_cons de_int da_nil))) (da_cons (de_tup (da_cons de_int (da_cons de_int da_nil))) (da_cons (de_tup (da_cons de_int (da_cons de_int da_nil))) da_nil))))))))))) (de_var 1)))) dss_nil)))
      (dss_one (ds_ret de_non))))) fun ds => ?_
  unfold g_bounds
  split
  · rename_i z
    cases hz : PyData.strOk z with
    | false => exact .inl rfl
    | true =>
      refine .inr ?_
      rw [chk_ok (by rfl), show startD N__law_bounds [.str z] = [some (.str z), none] from rfl, R.when_true]
      have sz9 : szOk 9 = true := by decide
      have sz2 : szOk 2 = true := by decide
      have gate : ∀ k : Nat, k < 9 → gEq (.str z) (.str (kd k)) = .ok (.bool (decide (z = kd k))) := fun k hk => g_eqS hz (kd_ok k hk)
      unfold m__law_bounds
      rw [q_seq, q_forR]
      rw [show (mCons (mC (.int 9)) mNil [some (.str z), none]) = .ok [.int 9] from rfl, R.run_ok, q_forRK1, show R.when (decide (-(2 ^ 62) ≤ (9 : Int) ∧ (9 : Int) < 2 ^ 62)) = fun r : R Out => r from rfl]
      have turn : ∀ (x : Option D) (k : Nat), k < 9 → stName 1 (.int (k : Int)) [some (.str z), x] = .ok [some (.str z), some (.int (k : Int))] := fun x k hk => rfl
      generalize hm : mIf _ _ _ = body
      have hb : ∀ k : Nat, k < 9 → body [some (.str z), some (.int (k : Int))] = if z = kd k then .ok (.rt (bnd k)) else .ok (.nx [some (.str z), some (.int (k : Int))]) := fun k hk => by
        rw [← hm]
        by_cases e : z = kd k
        · rw [if_pos e]
          have g := gate k hk
          rw [decide_eq_true e] at g
          repeat (first | simp only [sz9, sz2, kinds_at k hk, bnds_at k hk, g] | walk_at "dl")
        · rw [if_neg e]
          have g := gate k hk
          rw [decide_eq_false e] at g
          repeat (first | simp only [sz9, sz2, kinds_at k hk, bnds_at k hk, g] | walk_at "dl")
      clear hm
      have step : ∀ (i : Option Nat), kindIx z = i → ∀ (n k : Nat), n + k = 9 → (∀ j, i = some j → k ≤ j) → ∀ x, fin ((loopM (stName 1) body ((List.range' k n).map fun i => .int (i : Nat)) [some (.str z), x]).bind (seqK (mRet (mC .none)))) = .ok (boundsOf z) := fun i hi n => by
        induction n with
        | zero =>
          intro k hk hj x
          cases i with
          | some j =>
            have := hj j rfl
            have := ix_lt hi
            omega
          | none =>
            unfold boundsOf
            rw [hi]; rfl
        | succ n ih =>
          intro k hk hj x
          rw [List.range'_succ, List.map_cons]
          by_cases e : z = kd k
          · rw [loop_rt (turn x k (by omega)) (by rw [hb k (by omega), if_pos e])]
            unfold boundsOf
            rw [e, kd_ix k (by omega)]; rfl
          · rw [loop_nx (turn x k (by omega)) (by rw [hb k (by omega), if_neg e])]
            refine ih (k + 1) (by omega) (fun j q => ?_) _
            have h1 := hj j q
            rcases Nat.lt_or_ge k j with h | h
            · exact h
            · have : j = k := by omega
              subst this
              rw [q] at hi
              exact absurd (kd_find hi).symm e
      have := step _ rfl 9 0 rfl (fun j _ => Nat.zero_le j) none
      rw [← List.range_eq_range'] at this
      exact this
  · exact .inl rfl
/-! what is told -/
def wordOf (z : Str) (bs : List Bool) : Str := match kindIx z with
  | some i => if arOk i bs.length = true then "" else "sources"
  | none => "kind"
def refOf (z : Str) (bs : List Bool) : Bool := match kindIx z with
  | some i => !arOk i bs.length
  | none => true
def g_word : List D → R D
  | [.str z, .list xs] => match boolsD xs with
    | some bs => R.when (fmtOk z && decide (bs.length ≤ 20)) (.ok (.str (wordOf z bs)))
    | none => .bad
  | _ => .bad
def g_refused : List D → R D
  | [.str z, .list xs] => match boolsD xs with
    | some bs => R.when (fmtOk z && decide (bs.length ≤ 20)) (.ok (.bool (refOf z bs)))
    | none => .bad
  | _ => .bad
theorem ans_ev {z : Str} {bs : List Bool} (hz : fmtOk z = true) (hl : bs.length ≤ 20) : g_answer [.str z, .list (bs.map PyData.bool)] = match kindIx z with
    | some i => if arOk i bs.length = true then .ok (.bool (ansB i bs)) else .ex 1
    | none => .ex 0 := by
  unfold g_answer
  dsimp only
  rw [bools_of]
  dsimp only
  cases kindIx z with
  | none => dsimp only; rw [hz]; rfl
  | some i =>
    dsimp only
    rw [decide_eq_true hl]; rfl
def m__law_word : DS → R Out :=
  (mSeq (mSet [] 2 (mC (.str "")))
    (mSeq (mTry (mSeq (mSet [] 3 (mCall g_answer (mCons (mVar 0) (mCons (mVar 1) mNil))))
    (mIf (mNot (mB (fun δ => ((mVar 3) δ).bind (gIs "bool")))) (mSet [] 2 (mC (.str "other"))) mSkip)) [(p_NoKind, (mSet [] 2 (mC (.str "kind")))), (p_NoSources, (mSet [] 2 (mC (.str "sources"))))])
    (mRet (mVar 2))))
theorem h__law_word (F : Fun K "_law_word" "_law_word" s__law_word f fd) (mf : mg "_law_word" = some (.ref f)) (bd : Binds K fd ["_law_kind", "_law_given"] []) (h_answer : Has P w K mg base cv "answer" ["kind", "given"] 3 g_answer) (m_isinstance : mg "isinstance" = none) (m_bool : mg "bool" = none) (n_NoKind : mg "NoKind" = some c_NoKind) (n_NoSources : mg "NoSources" = some c_NoSources)
    (e_NoKind : ∀ k b, p_NoKind k = some b → PySem.W.exmOne K (cv k) c_NoKind = some b) (e_NoSources : ∀ k b, p_NoSources k = some b → PySem.W.exmOne K (cv k) c_NoSources = some b) : Has P w K mg base cv "_law_word" ["_law_kind", "_law_given"] 4 g_word := by
  have nd := sc__law_word.nd
  refine Has.imp (has_D (m := m__law_word) [] F mf bd sc__law_word (by decide) (fun cdv A outer s H E hr => (dss_cons (ds_set (i := 2) nd rfl (Or.inl rfl) de_str)
      (dss_cons (ds_try rfl rfl (takes_of rfl rfl rfl rfl) (fun W pn xe tk pw => (dss_cons (ds_set (i := 3) nd rfl (Or.inl rfl) (de_has h_answer hr (passAt tk) (da_cons (de_var 0) (da_cons (de_var 1) da_nil))))
      (dss_one (ds_if (dt_not (dt_val (de_isi (T := "bool") (by rfl) m_isinstance (by rfl) m_bool (by decide +kernel) (de_var 3)))) (dss_one (ds_set (i := 2) nd rfl (Or.inl rfl) de_str)) dss_nil)))) (HdsD.cons ⟨rfl, by decide, Or.inl n_NoKind⟩ e_NoKind (fun _ _ _ => (dss_one (ds_set (i := 2) nd rfl (Or.inl rfl) de_str))) (HdsD.cons ⟨rfl, by decide, Or.inl n_NoSources⟩ e_NoSources (fun _ _ _ => (dss_one (ds_set (i := 2) nd rfl (Or.inl rfl) de_str))) HdsD.nil)))
      (dss_one (ds_ret (de_var 2))))))) fun ds => ?_
  unfold g_word
  split
  · rename_i z xs
    split
    · rename_i bs e2
      have e3 := bools_inv e2
      subst e3
      cases hb : fmtOk z && decide (bs.length ≤ 20) with
      | false => exact .inl rfl
      | true =>
        refine .inr ?_
        rw [Bool.and_eq_true] at hb
        obtain ⟨hz, hl⟩ := hb
        have hl := of_decide_eq_true hl
        have ev := ans_ev hz hl
        have isb : ∀ b, gIs "bool" (.bool b) = .ok (.bool true) := fun b => rfl
        have p00 : p_NoKind 0 = some true := rfl
        have p01 : p_NoKind 1 = some false := rfl
        have p11 : p_NoSources 1 = some true := rfl
        rw [chk_ok (by rfl), show startD N__law_word [.str z, .list (bs.map PyData.bool)] = [some (.str z), some (.list (bs.map PyData.bool)), none, none] from rfl]
        unfold m__law_word wordOf
        cases e : kindIx z with
        | none =>
          rw [e] at ev
          dsimp only at ev ⊢
          repeat (first | simp only [ev, p00] | walk_at "dl")
        | some i =>
          rw [e] at ev
          dsimp only at ev ⊢
          by_cases h : arOk i bs.length = true
          · rw [if_pos h] at ev ⊢
            repeat (first | simp only [ev, isb] | walk_at "dl")
          · rw [if_neg h] at ev ⊢
            repeat (first | simp only [ev, p01, p11] | walk_at "dl")
    · exact .inl rfl
  · exact .inl rfl
def m__law_refused_by_any : DS → R Out :=
  (mSeq (mTryIs 2 (mDrop (mCall g_answer (mCons (mVar 0) (mCons (mVar 1) mNil)))) p_SignalError)
    (mRet (mC (.bool false))))
theorem h__law_refused_by_any (F : Fun K "_law_refused_by_any" "_law_refused_by_any" s__law_refused_by_any f fd) (mf : mg "_law_refused_by_any" = some (.ref f)) (bd : Binds K fd ["_law_kind", "_law_given"] []) (h_answer : Has P w K mg base cv "answer" ["kind", "given"] 3 g_answer) (m_isinstance : mg "isinstance" = none) (m_ValueError : mg "ValueError" = none) (n_SignalError : mg "SignalError" = some c_SignalError)
    (e_SignalError : ∀ k b, p_SignalError k = some b → PySem.W.exmOne K (cv k) c_SignalError = some b) (i_SignalError : ∀ k, p_SignalError k = some true → IsErr K (cv k)) : Has P w K mg base cv "_law_refused_by_any" ["_law_kind", "_law_given"] 4 g_refused := by
  have nd := sc__law_refused_by_any.nd
  refine Has.imp (has_D (m := m__law_refused_by_any) [] F mf bd sc__law_refused_by_any (by decide) (fun cdv A outer s H E hr => (dss_cons (ds_tryIs (i := 2) rfl rfl (takes_of rfl rfl rfl rfl) nd rfl rfl (Or.inl rfl) ⟨rfl, by decide, Or.inl n_SignalError⟩ e_SignalError i_SignalError (fun W pn xe tk pw => (dss_one (ds_expr (de_has h_answer hr (passAt tk) (da_cons (de_var 0) (da_cons (de_var 1) da_nil)))))) m_isinstance m_ValueError)
      (dss_one (ds_ret de_bl))))) fun ds => ?_
  unfold g_refused
  split
  · rename_i z xs
    split
    · rename_i bs e2
      have e3 := bools_inv e2
      subst e3
      cases hb : fmtOk z && decide (bs.length ≤ 20) with
      | false => exact .inl rfl
      | true =>
        refine .inr ?_
        rw [Bool.and_eq_true] at hb
        obtain ⟨hz, hl⟩ := hb
        have hl := of_decide_eq_true hl
        have ev := ans_ev hz hl
        have k0 : ∀ δ, tryIsK 2 p_SignalError (.ok (.ex 0 δ)) = R.when (inB 2 δ) (.ok (.rt (.bool true))) := fun δ => tryIsK_ex rfl
        have k1 : ∀ δ, tryIsK 2 p_SignalError (.ok (.ex 1 δ)) = R.when (inB 2 δ) (.ok (.rt (.bool true))) := fun δ => tryIsK_ex rfl
        rw [chk_ok (by rfl), show startD N__law_refused_by_any [.str z, .list (bs.map PyData.bool)] = [some (.str z), some (.list (bs.map PyData.bool)), none] from rfl]
        unfold m__law_refused_by_any refOf
        cases e : kindIx z with
        | none =>
          rw [e] at ev
          dsimp only at ev ⊢
          repeat (first | simp only [ev, k0] | walk_at "dl")
        | some i =>
          rw [e] at ev
          dsimp only at ev ⊢
          by_cases h : arOk i bs.length = true
          · rw [if_pos h] at ev
            rw [h]
            repeat (first | simp only [ev] | walk_at "dl")
          · rw [if_neg h] at ev
            rw [Bool.eq_false_iff.mpr h]
            repeat (first | simp only [ev, k1] | walk_at "dl")
    · exact .inl rfl
  · exact .inl rfl

/-! the law -/
def g_law : List D → R D
  | [.list xs] => match intsD xs with
    | some _ => .ok (.bool true)
    | none => .bad
  | _ => .bad
theorem ne_int (a : Int) : gNe (.int a) (.int a) = .ok (.bool false) := by
  show R.when (shp (.int a) && shp (.int a)) (R.ok (PyData.bool (!PyData.eqv (.int a) (.int a)))) = _
  rw [shp_int, eqv_int, decide_eq_true rfl]; rfl
theorem ne_two (a b : Int) : gNe (.tuple [.int a, .int b]) (.tuple [.int a, .int b]) = .ok (.bool false) := by
  have s : shp (.tuple [.int a, .int b]) = true := by
    simp [shp, SeqAt.shaped, PyData.canLayAll0, PyData.depthAll, PyData.canLay0, PyData.depth]
  have e : PyData.eqv (.tuple [.int a, .int b]) (.tuple [.int a, .int b]) = true := by
    simp [PyData.eqv, PyData.eqvAll]
  show R.when (shp _ && shp _) (R.ok (PyData.bool (!PyData.eqv _ _))) = _
  rw [s, e]; rfl
theorem bnd_ne : ∀ i, i < 9 → gNe (bnd i) (bnd i) = .ok (.bool false)
  | 0, _ => ne_two _ _ | 1, _ => ne_two _ _ | 2, _ => ne_two _ _ | 3, _ => ne_two _ _ | 4, _ => ne_two _ _ | 5, _ => ne_two _ _ | 6, _ => ne_two _ _ | 7, _ => ne_two _ _ | 8, _ => ne_two _ _
  | n + 9, h => by omega
def m_law_3 : DS → R Out :=
  (mSeq (mIf (mB (mBin (gIsN false) (mVar 2) (mC .none))) (mSeq (mSet [] 4 (mC (.str "")))
    (mSeq (mTry (mDrop (mCall g_wants (mCons (mVar 1) mNil))) [(p_NoKind, (mSet [] 4 (mC (.str "kind"))))])
    (mRet (mAndE (mBin gEq (mVar 4) (mC (.str "kind"))) (mAndE (mBin gEq (mCall g_word (mCons (mVar 1) (mCons (mVar 3) mNil))) (mC (.str "kind"))) (mCall g_refused (mCons (mVar 1) (mCons (mVar 3) mNil)))))))) mSkip)
    (mSeq (mSet [] 5 (mCall g_wants (mCons (mVar 1) mNil)))
    (mSeq (mIf (mOr (mNot (mB (fun δ => ((mVar 5) δ).bind (gIs "tuple")))) (mOr (mB (mBin gNe (mCall gLen (mCons (mVar 5) mNil)) (mC (.int 2)))) (mOr (mNot (mB (mCall g_whole (mCons (mBin gIx (mVar 5) (mC (.int 0))) mNil)))) (mNot (mB (mCall g_whole (mCons (mBin gIx (mVar 5) (mC (.int 1))) mNil))))))) (mRet (mC (.bool false))) mSkip)
    (mSeq (mIf (mB (mBin gNe (mVar 5) (mVar 2))) (mRet (mC (.bool false))) mSkip)
    (mSeq (mIf (mAnd (mB (mBin (gCmp fun i j => decide (i ≤ j)) (mBin gIx (mVar 2) (mC (.int 0))) (mCall gLen (mCons (mVar 3) mNil)))) (mB (mBin (gCmp fun i j => decide (i ≤ j)) (mCall gLen (mCons (mVar 3) mNil)) (mBin gIx (mVar 2) (mC (.int 1)))))) (mRet (mBin gEq (mCall g_word (mCons (mVar 1) (mCons (mVar 3) mNil))) (mC (.str "")))) mSkip)
    (mRet (mAndE (mBin gEq (mCall g_word (mCons (mVar 1) (mCons (mVar 3) mNil))) (mC (.str "sources"))) (mCall g_refused (mCons (mVar 1) (mCons (mVar 3) mNil))))))))))
def m_law : DS → R Out :=
  (mSeq (mSet [] 1 (mCall g_kindby (mCons (mCall g_cell (mCons (mVar 0) (mCons (mC (.int 0)) mNil))) mNil)))
    (mSeq (mSet [] 2 (mCall g_bounds (mCons (mVar 1) mNil)))
    (mSeq (mSet [] 3 (mCall g_truths (mCons (mCall g_cell (mCons (mVar 0) (mCons (mC (.int 2)) mNil))) (mCons (mBin gMod (mCall g_cell (mCons (mVar 0) (mCons (mC (.int 1)) mNil))) (mC (.int 13))) mNil))))
    m_law_3)))
theorem law_tail {ns : List Int} {z : Str} {bs : List Bool} (hz : fmtOk z = true) (hl : bs.length ≤ 12)
    : fin (m_law_3 [some (.list (ns.map PyData.int)), some (.str z), some (boundsOf z), some (.list (bs.map PyData.bool)), none, none]) = .ok (.bool true) := by
  have gw : g_word [.str z, .list (bs.map PyData.bool)] = .ok (.str (wordOf z bs)) := by
    unfold g_word; dsimp only; rw [bools_of]; dsimp only; rw [hz, decide_eq_true (show bs.length ≤ 20 by omega)]; rfl
  have gr : g_refused [.str z, .list (bs.map PyData.bool)] = .ok (.bool (refOf z bs)) := by
    unfold g_refused; dsimp only; rw [bools_of]; dsimp only; rw [hz, decide_eq_true (show bs.length ≤ 20 by omega)]; rfl
  have p00 : p_NoKind 0 = some true := rfl
  have ok1 : PyData.strOk "kind" = true := by decide +kernel
  have ok2 : PyData.strOk "" = true := by decide +kernel
  have ok3 : PyData.strOk "sources" = true := by decide +kernel
  have e1 : gEq (.str "kind") (.str "kind") = .ok (.bool true) := by rw [g_eqS ok1 ok1, decide_eq_true rfl]
  have e2 : gEq (.str "") (.str "") = .ok (.bool true) := by rw [g_eqS ok2 ok2, decide_eq_true rfl]
  have e3 : gEq (.str "sources") (.str "sources") = .ok (.bool true) := by rw [g_eqS ok3 ok3, decide_eq_true rfl]
  unfold m_law_3
  unfold boundsOf
  unfold wordOf at gw
  unfold refOf at gr
  cases e : kindIx z with
  | none =>
    rw [e] at gw gr
    dsimp only at gw gr ⊢
    have gt : g_wants [.str z] = .ex 0 := by unfold g_wants; dsimp only; rw [e]; dsimp only; rw [hz]; rfl
    repeat (first | simp only [gt, gw, gr, p00, e1] | walk_at "dl")
  | some i =>
    rw [e] at gw gr
    have hi9 := ix_lt e
    dsimp only at gw gr ⊢
    have gt : g_wants [.str z] = .ok (bnd i) := by unfold g_wants; dsimp only; rw [e]; rfl
    have ne := bnd_ne i hi9
    have ist : gIs "tuple" (bnd i) = .ok (.bool true) := rfl
    have iln : gLen [bnd i] = .ok (.int 2) := rfl
    have i0 : gIx (bnd i) (.int 0) = .ok (.int (lo i)) := rfl
    have i1 : gIx (bnd i) (.int 1) = .ok (.int (hi i)) := rfl
    have isn : isNone (bnd i) = false := rfl
    have wh : ∀ a, g_whole [.int a] = .ok (.bool true) := fun _ => rfl
    have n22 : gNe (.int 2) (.int 2) = .ok (.bool false) := ne_int 2
    have lb : (bs.map PyData.bool).length = bs.length := List.length_map _
    by_cases h : arOk i bs.length = true
    · rw [if_pos h] at gw
      have h1 := ar_eq h
      have ha : lo i ≤ (bs.length : Int) := h1.1
      have hb : (bs.length : Int) ≤ hi i := h1.2
      repeat (first | simp only [gt, gw, ist, iln, i0, i1, isn, wh, n22, ne, e2, lb, ha, hb] | walk_at "dl")
    · rw [if_neg h] at gw
      rw [Bool.eq_false_iff.mpr h] at gr
      have h1 : ¬ (lo i ≤ (bs.length : Int) ∧ (bs.length : Int) ≤ hi i) := fun q => h (decide_eq_true q)
      by_cases ha : lo i ≤ (bs.length : Int)
      · have hb : ¬ (bs.length : Int) ≤ hi i := fun q => h1 ⟨ha, q⟩
        repeat (first | simp only [gt, gw, gr, ist, iln, i0, i1, isn, wh, n22, ne, e3, lb, ha, hb] | walk_at "dl")
      · repeat (first | simp only [gt, gw, gr, ist, iln, i0, i1, isn, wh, n22, ne, e3, lb, ha] | walk_at "dl")
theorem h_law (F : Fun K "law" "law" s_law f fd) (mf : mg "law" = some (.ref f)) (bd : Binds K fd ["_law_script"] []) (h__law_cell_at : Has P w K mg base cv "_law_cell_at" ["_law_script", "_law_k"] 1 g_cell) (h__law_kind_by : Has P w K mg base cv "_law_kind_by" ["_law_cell"] 2 g_kindby) (h__law_bounds : Has P w K mg base cv "_law_bounds" ["_law_kind"] 1 g_bounds) (h__law_truths : Has P w K mg base cv "_law_truths" ["_law_cell", "_law_many"] 2 g_truths) (h_wants : Has P w K mg base cv "wants" ["kind"] 1 g_wants) (h__law_word : Has P w K mg base cv "_law_word" ["_law_kind", "_law_given"] 4 g_word) (h__law_refused_by_any : Has P w K mg base cv "_law_refused_by_any" ["_law_kind", "_law_given"] 4 g_refused) (h__law_whole : Has P w K mg base cv "_law_whole" ["_law_found"] 1 g_whole)
    (m_len : mg "len" = none) (m_isinstance : mg "isinstance" = none) (m_tuple : mg "tuple" = none) (n_NoKind : mg "NoKind" = some c_NoKind) (e_NoKind : ∀ k b, p_NoKind k = some b → PySem.W.exmOne K (cv k) c_NoKind = some b) : FnOk P w K mg base (L2.CX P w) 5 f fd ["_law_script"] (SpD K cv g_law) := by
  have nd := sc_law.nd
  refine FnOk.tells (fn_D (m := m_law) [] F sc_law (by decide) (fun cdv A outer s H E hr => (dss_cons (ds_set (i := 1) nd rfl (Or.inl rfl) (de_has h__law_kind_by hr (pass_def rfl rfl rfl rfl) (da_cons (de_has h__law_cell_at hr (pass_def rfl rfl rfl rfl) (da_cons (de_var 0) (da_cons de_int da_nil))) da_nil)))
      (dss_cons (ds_set (i := 2) nd rfl (Or.inl rfl) (de_has h__law_bounds hr (pass_def rfl rfl rfl rfl) (da_cons (de_var 1) da_nil)))
      (dss_cons (ds_set (i := 3) nd rfl (Or.inl rfl) (de_has h__law_truths hr (pass_def rfl rfl rfl rfl) (da_cons (de_has h__law_cell_at hr (pass_def rfl rfl rfl rfl) (da_cons (de_var 0) (da_cons de_int da_nil))) (da_cons (de_op op_mod dop_mod (de_has h__law_cell_at hr (pass_def rfl rfl rfl rfl) (da_cons (de_var 0) (da_cons de_int da_nil))) de_int) da_nil))))
      (dss_cons (ds_if (dt_cmp op_isN1 dop_isN (de_var 2) de_non) (dss_cons (ds_set (i := 4) nd rfl (Or.inl rfl) de_str)
      (dss_cons (ds_try rfl rfl (takes_of rfl rfl rfl rfl) (fun W pn xe tk pw => (dss_one (ds_expr (de_has h_wants hr (passAt tk) (da_cons (de_var 1) da_nil))))) (HdsD.cons ⟨rfl, by decide, Or.inl n_NoKind⟩ e_NoKind (fun _ _ _ => (dss_one (ds_set (i := 4) nd rfl (Or.inl rfl) de_str))) HdsD.nil))
      (dss_one (ds_ret (de_and (de_cmp (op_eqD hr.units) dop_eq (de_var 4) de_str) (de_and (de_cmp (op_eqD hr.units) dop_eq (de_has h__law_word hr (pass_def rfl rfl rfl rfl) (da_cons (de_var 1) (da_cons (de_var 3) da_nil))) de_str) (de_one (de_has h__law_refused_by_any hr (pass_def rfl rfl rfl rfl) (da_cons (de_var 1) (da_cons (de_var 3) da_nil)))))))))) dss_nil)
      (dss_cons (ds_set (i := 5) nd rfl (Or.inl rfl) (de_has h_wants hr (pass_def rfl rfl rfl rfl) (da_cons (de_var 1) da_nil)))
      (dss_cons (ds_if (dt_w (dw_or (dt_not (dt_val (de_isi (T := "tuple") (by rfl) m_isinstance (by rfl) m_tuple (by decide +kernel) (de_var 5)))) (dw_or (dt_cmp (op_neD hr.units) dop_ne (de_callB call_lenD2 dc_len (by rfl) m_len PySem.boot_len (da_cons (de_var 5) da_nil)) de_int) (dw_or (dt_not (dt_val (de_has h__law_whole hr (pass_def rfl rfl rfl rfl) (da_cons (de_ix ix_any dop_ix (de_var 5) de_int) da_nil)))) (dw_one (dt_not (dt_val (de_has h__law_whole hr (pass_def rfl rfl rfl rfl) (da_cons (de_ix ix_any dop_ix (de_var 5) de_int) da_nil))))))))) (dss_one (ds_ret de_bl)) dss_nil)
      (dss_cons (ds_if (dt_cmp (op_neD hr.units) dop_ne (de_var 5) (de_var 2)) (dss_one (ds_ret de_bl)) dss_nil)
      (dss_cons (ds_if (dt_w (dw_and (dt_cmp op_le dop_cmp (de_ix ix_any dop_ix (de_var 2) de_int) (de_callB call_lenD2 dc_len (by rfl) m_len PySem.boot_len (da_cons (de_var 3) da_nil))) (dw_one (dt_cmp op_le dop_cmp (de_callB call_lenD2 dc_len (by rfl) m_len PySem.boot_len (da_cons (de_var 3) da_nil)) (de_ix ix_any dop_ix (de_var 2) de_int))))) (dss_one (ds_ret (de_cmp (op_eqD hr.units) dop_eq (de_has h__law_word hr (pass_def rfl rfl rfl rfl) (da_cons (de_var 1) (da_cons (de_var 3) da_nil))) de_str))) dss_nil)
      (dss_one (ds_ret (de_and (de_cmp (op_eqD hr.units) dop_eq (de_has h__law_word hr (pass_def rfl rfl rfl rfl) (da_cons (de_var 1) (da_cons (de_var 3) da_nil))) de_str) (de_one (de_has h__law_refused_by_any hr (pass_def rfl rfl rfl rfl) (da_cons (de_var 1) (da_cons (de_var 3) da_nil))))))))))))))))) fun ds => ?_
  unfold g_law
  split
  · rename_i xs
    split
    · rename_i ns hx
      have hx := ints_inv hx
      subst hx
      refine .inr ?_
      rw [chk_ok (by rfl), show startD N_law [.list (ns.map PyData.int)] = [some (.list (ns.map PyData.int)), none, none, none, none, none] from rfl]
      have z0 : ∀ k : Nat, g_cell [.list (ns.map PyData.int), .int (k : Int)] = .ok (.int (cell ns k)) := cell_at ns
      have c0 : g_cell [.list (ns.map PyData.int), .int 0] = .ok (.int (cell ns 0)) := z0 0
      have c1 : g_cell [.list (ns.map PyData.int), .int 1] = .ok (.int (cell ns 1)) := z0 1
      have c2 : g_cell [.list (ns.map PyData.int), .int 2] = .ok (.int (cell ns 2)) := z0 2
      have m13 : ∀ a, modOk a 13 = true := fun _ => rfl
      have hz := kw_fmt (cell ns 0)
      have hs : PyData.strOk (kw (cell ns 0)) = true := by
        unfold fmtOk at hz; rw [Bool.and_eq_true] at hz; exact hz.1
      have gk : g_kindby [.int (cell ns 0)] = .ok (.str (kw (cell ns 0))) := rfl
      have gb : g_bounds [.str (kw (cell ns 0))] = .ok (boundsOf (kw (cell ns 0))) := by unfold g_bounds; dsimp only; rw [hs]; rfl
      have gt : g_truths [.int (cell ns 2), .int (cell ns 1 % 13)] = .ok (.list ((truths (cell ns 2) (cell ns 1 % 13).toNat).map PyData.bool)) := by
        unfold g_truths; dsimp only; rw [decide_eq_true (show 0 ≤ cell ns 1 % 13 ∧ cell ns 1 % 13 ≤ 1000 by omega)]; rfl
      refine cut (fun δ => δ = [some (.list (ns.map PyData.int)), some (.str (kw (cell ns 0))), none, none, none, none]) ⟨_, ?_, rfl⟩ fun δ h => ?_
      · repeat (first | simp only [c0, gk] | walk_at "dl")
      subst h
      refine cut (fun δ => δ = [some (.list (ns.map PyData.int)), some (.str (kw (cell ns 0))), some (boundsOf (kw (cell ns 0))), none, none, none]) ⟨_, ?_, rfl⟩ fun δ h => ?_
      · repeat (first | simp only [gb] | walk_at "dl")
      subst h
      refine cut (fun δ => δ = [some (.list (ns.map PyData.int)), some (.str (kw (cell ns 0))), some (boundsOf (kw (cell ns 0))), some (.list ((truths (cell ns 2) (cell ns 1 % 13).toNat).map PyData.bool)), none, none]) ⟨_, ?_, rfl⟩ fun δ h => ?_
      · repeat (first | simp only [c1, c2, m13, gt] | walk_at "dl")
      subst h
      exact law_tail hz (by rw [truths_len]; omega)
    · exact .inl rfl
  · exact .inl rfl
end
end K2
namespace K2
open PySem PySem.Spec PyProof.Rows L2
/-- nine entries with the kinds as keys, in their order -/
def Nine (es : List DictEntry) (v : Nat → Value) : Prop := es.length = 9 ∧ ∀ i, i < 9 → ∃ h t, es[i]? = some ⟨h, .str (kd i) t, v i⟩
theorem nine_at {K : PySem.W.Frag} {d : Addr} {es : Array DictEntry} {n : Nat} {v : Nat → Value} (l : K.lookup d = some ⟨.type "dict", none, .dict es n, #[]⟩) (e : Nine es.toList v) (z : Str) : PySem.W.nsIn K d z = some ((kindIx z).map v) := by
  obtain ⟨hl, e⟩ := e
  unfold PySem.W.nsIn
  rw [l]
  dsimp only
  have all : ∀ x ∈ es.toList, ∃ i h t, i < 9 ∧ x = ⟨h, .str (kd i) t, v i⟩ := fun x hx => by
    obtain ⟨i, hi, rfl⟩ := List.mem_iff_getElem.mp hx
    obtain ⟨h, t, q⟩ := e i (by omega)
    rw [List.getElem?_eq_getElem hi] at q
    exact ⟨i, h, t, by omega, Option.some.inj q⟩
  cases q : kindIx z with
  | some i =>
    have hi := ix_lt q
    obtain ⟨h, t, e1⟩ := e i hi
    cases f : es.toList.find? (·.key.isStr z) with
    | none =>
      have m := List.find?_eq_none.mp f ⟨h, .str (kd i) t, v i⟩ (List.mem_of_getElem? e1)
      exact absurd (show (kd i == z) = true from beq_iff_eq.mpr (kd_find q)) m
    | some x =>
      obtain ⟨j, h', t', hj, rfl⟩ := all x (List.mem_of_find?_eq_some f)
      have m := List.find?_some f
      have m2 : kd j = z := beq_iff_eq.mp (show (kd j == z) = true from m)
      have e2 : j = i := by
        have a := kd_ix j hj
        rw [m2, q] at a
        exact (Option.some.inj a).symm
      subst e2
      rfl
  | none =>
    have f : es.toList.find? (·.key.isStr z) = none := List.find?_eq_none.mpr fun x hx => by
      obtain ⟨j, h', t', hj, rfl⟩ := all x hx
      intro m
      exact kd_miss q j hj (beq_iff_eq.mp (show (kd j == z) = true from m))
    rw [f]
    dsimp only
    have r : es.toList.any (·.refKey) = false := by
      rw [List.any_eq_false]
      intro x hx
      obtain ⟨j, h', t', hj, rfl⟩ := all x hx
      intro m
      cases m
    rw [r]; rfl
def TwoAt (K : PySem.W.Frag) (p : Addr) (a b : Int) : Prop := ∃ (o : Obj) (t t' : Tok) (n : Nat), K.lookup p = some o ∧ o.cls = .type "tuple" ∧ o.data = .seq #[.int a t, .int b t'] n
theorem two_dp {K : PySem.W.Frag} {p : Addr} {a b : Int} (h : TwoAt K p a b) (H : Hp) : Dp K H (.ref p) (.tuple [.int a, .int b]) := by
  obtain ⟨o, t, t', n, h1, h2, h3⟩ := h
  exact .tup (xs := [.int a, .int b]) (.inr ⟨o, _, n, h1, h2, h3, Nat.le_trans (show 2 ≤ 1000 by decide) (Nat.le_of_lt (small1000 (Nat.le_refl _))), .cons (show RelV (.int a) (.int a t) from ⟨t, rfl⟩) (.cons (show RelV (.int b) (.int b t') from ⟨t', rfl⟩) .nil)⟩) (.cons (.int a) (.cons (.int b) .nil))
def spLaw (K : PySem.W.Frag) : Sp := fun vs H Q _ => ∃ (a : Addr) (ns : List Int), vs = [.ref a] ∧ SqL K H a (ns.map V.int) ∧ ns.length ≤ 63 ∧ ∀ H', Q (.bl true) H'
theorem dp_ints {K : PySem.W.Frag} {H : Hp} (ns : List Int) : DpAll K H (ns.map V.int) (ns.map PyData.int) := by
  induction ns with
  | nil => exact .nil
  | cons n ns ih => exact .cons (.int n) ih
theorem law_ok {P : Program} {w : World} {K : PySem.W.Frag} {mg : Str → Option Value} {base : Heap} {cv : Nat → Value} {k : Nat} {g : List D → R D} {f : Addr} {fd : FuncData} (F : FnOk P w K mg base (L2.CX P w) k f fd ["_law_script"] (SpD K cv g)) (hg : ∀ ns : List Int, ns.length ≤ 63 → g [.list (ns.map PyData.int)] = .ok (.bool true)) :
    FnOk P w K mg base (L2.CX P w) k f fd ["_law_script"] (spLaw K) := by
  refine F.imp fun vs H Q E ⟨a, ns, e, hs, hl, q⟩ => ⟨fun _ => False, [.list (ns.map PyData.int)], fun _ h => h.elim, ?_, ?_⟩
  · rw [e]
    exact .cons (.lst (by
      rcases hs with (hs | ⟨o, hs⟩) | hs
      · exact .inl (.inl (mask_some.mpr ⟨id, hs⟩))
      · exact .inl (.inr ⟨o, mask_some.mpr ⟨id, hs⟩⟩)
      · exact .inr hs) (dp_ints ns)) .nil
  · rw [hg ns hl]
    intro v H' s r
    cases r
    exact q H'
theorem all_mk {l : PySem.W.OpenLaw} {w : World} {K : PySem.W.Frag} {h : Heap} {mg : Str → Option Value} {fa f0 f1 f2 f3 f4 f5 f6 f7 f8 f9 f10 f11 f12 f13 f14 f15 f16 f17 f18 f19 f20 C0 C1 C2 dN dR p0 p1 p2 p3 p4 p5 p6 p7 p8 : Addr}
    {od0 an0 od1 an1 od2 an2 od3 an3 od4 an4 od5 an5 od6 an6 od7 an7 od8 an8 od9 an9 od10 an10 od11 an11 od12 an12 od13 an13 od14 an14 od15 an15 od16 an16 od17 an17 od18 an18 od19 an19 od20 an20 : Option Addr} {sl0 sl1 sl2 sl3 sl4 sl5 sl6 sl7 sl8 sl9 sl10 sl11 sl12 sl13 sl14 sl15 sl16 sl17 sl18 sl19 sl20 : Array (Option Value)} {oc0 kV0 dc0 pm0 cd0 ct0 oc1 kV1 dc1 pm1 cd1 ct1 oc2 kV2 dc2 pm2 cd2 ct2 oc3 kV3 dc3 pm3 cd3 ct3 oc4 kV4 dc4 pm4 cd4 ct4 oc5 kV5 dc5 pm5 cd5 ct5 oc6 kV6 dc6 pm6 cd6 ct6 oc7 kV7 dc7 pm7 cd7 ct7 oc8 kV8 dc8 pm8 cd8 ct8 oc9 kV9 dc9 pm9 cd9 ct9 oc10 kV10 dc10 pm10 cd10 ct10 oc11 kV11 dc11 pm11 cd11 ct11 oc12 kV12 dc12 pm12 cd12 ct12 oc13 kV13 dc13 pm13 cd13 ct13 oc14 kV14 dc14 pm14 cd14 ct14 oc15 kV15 dc15 pm15 cd15 ct15 oc16 kV16 dc16 pm16 cd16 ct16 oc17 kV17 dc17 pm17 cd17 ct17 oc18 kV18 dc18 pm18 cd18 ct18 oc19 kV19 dc19 pm19 cd19 ct19 oc20 kV20 dc20 pm20 cd20 ct20 : Value} {bm0 bm1 : List Value}
    {eN eR : Array DictEntry} {nN nR : Nat} {td0 td1 td2 td3 td4 td5 td6 td7 td8 : Option Addr} {ta0 tb0 ta1 tb1 ta2 tb2 ta3 tb3 ta4 tb4 ta5 tb5 ta6 tb6 ta7 tb7 ta8 tb8 : Tok} {tn0 tn1 tn2 tn3 tn4 tn5 tn6 tn7 tn8 : Nat} {ts0 ts1 ts2 ts3 ts4 ts5 ts6 ts7 ts8 : Array (Option Value)}
    (X : K.In h) (G : h.Ns mainGlobals mg) (hfa : mg "law" = some (.ref fa))
    (a0 : PySem.W.nsIn K mainGlobals "_yes" = some (some (.ref f0))) (l0 : K.lookup f0 = some ⟨oc0, od0, .func (PySem.W.fnOf "_yes" "_yes" (defArgs s__yes) (defBody s__yes) (defScope s__yes) .none kV0 dc0 pm0 an0 cd0 ct0), sl0⟩) (c0 : PySem.W.codeIn K cd0 "_yes" = true) (k0 : PySem.W.keepIn K (.ref f0) = true)
    (a1 : PySem.W.nsIn K mainGlobals "_no" = some (some (.ref f1))) (l1 : K.lookup f1 = some ⟨oc1, od1, .func (PySem.W.fnOf "_no" "_no" (defArgs s__no) (defBody s__no) (defScope s__no) .none kV1 dc1 pm1 an1 cd1 ct1), sl1⟩) (c1 : PySem.W.codeIn K cd1 "_no" = true) (k1 : PySem.W.keepIn K (.ref f1) = true)
    (a2 : PySem.W.nsIn K mainGlobals "_keep" = some (some (.ref f2))) (l2 : K.lookup f2 = some ⟨oc2, od2, .func (PySem.W.fnOf "_keep" "_keep" (defArgs s__keep) (defBody s__keep) (defScope s__keep) .none kV2 dc2 pm2 an2 cd2 ct2), sl2⟩) (c2 : PySem.W.codeIn K cd2 "_keep" = true) (k2 : PySem.W.keepIn K (.ref f2) = true)
    (a3 : PySem.W.nsIn K mainGlobals "_not" = some (some (.ref f3))) (l3 : K.lookup f3 = some ⟨oc3, od3, .func (PySem.W.fnOf "_not" "_not" (defArgs s__not) (defBody s__not) (defScope s__not) .none kV3 dc3 pm3 an3 cd3 ct3), sl3⟩) (c3 : PySem.W.codeIn K cd3 "_not" = true) (k3 : PySem.W.keepIn K (.ref f3) = true)
    (a4 : PySem.W.nsIn K mainGlobals "_both" = some (some (.ref f4))) (l4 : K.lookup f4 = some ⟨oc4, od4, .func (PySem.W.fnOf "_both" "_both" (defArgs s__both) (defBody s__both) (defScope s__both) .none kV4 dc4 pm4 an4 cd4 ct4), sl4⟩) (c4 : PySem.W.codeIn K cd4 "_both" = true) (k4 : PySem.W.keepIn K (.ref f4) = true)
    (a5 : PySem.W.nsIn K mainGlobals "_either" = some (some (.ref f5))) (l5 : K.lookup f5 = some ⟨oc5, od5, .func (PySem.W.fnOf "_either" "_either" (defArgs s__either) (defBody s__either) (defScope s__either) .none kV5 dc5 pm5 an5 cd5 ct5), sl5⟩) (c5 : PySem.W.codeIn K cd5 "_either" = true) (k5 : PySem.W.keepIn K (.ref f5) = true)
    (a6 : PySem.W.nsIn K mainGlobals "_unlike" = some (some (.ref f6))) (l6 : K.lookup f6 = some ⟨oc6, od6, .func (PySem.W.fnOf "_unlike" "_unlike" (defArgs s__unlike) (defBody s__unlike) (defScope s__unlike) .none kV6 dc6 pm6 an6 cd6 ct6), sl6⟩) (c6 : PySem.W.codeIn K cd6 "_unlike" = true) (k6 : PySem.W.keepIn K (.ref f6) = true)
    (a7 : PySem.W.nsIn K mainGlobals "_pick" = some (some (.ref f7))) (l7 : K.lookup f7 = some ⟨oc7, od7, .func (PySem.W.fnOf "_pick" "_pick" (defArgs s__pick) (defBody s__pick) (defScope s__pick) .none kV7 dc7 pm7 an7 cd7 ct7), sl7⟩) (c7 : PySem.W.codeIn K cd7 "_pick" = true) (k7 : PySem.W.keepIn K (.ref f7) = true)
    (a8 : PySem.W.nsIn K mainGlobals "_most" = some (some (.ref f8))) (l8 : K.lookup f8 = some ⟨oc8, od8, .func (PySem.W.fnOf "_most" "_most" (defArgs s__most) (defBody s__most) (defScope s__most) .none kV8 dc8 pm8 an8 cd8 ct8), sl8⟩) (c8 : PySem.W.codeIn K cd8 "_most" = true) (k8 : PySem.W.keepIn K (.ref f8) = true)
    (a9 : PySem.W.nsIn K mainGlobals "wants" = some (some (.ref f9))) (l9 : K.lookup f9 = some ⟨oc9, od9, .func (PySem.W.fnOf "wants" "wants" (defArgs s_wants) (defBody s_wants) (defScope s_wants) .none kV9 dc9 pm9 an9 cd9 ct9), sl9⟩) (c9 : PySem.W.codeIn K cd9 "wants" = true) (k9 : PySem.W.keepIn K (.ref f9) = true)
    (a10 : PySem.W.nsIn K mainGlobals "check_number" = some (some (.ref f10))) (l10 : K.lookup f10 = some ⟨oc10, od10, .func (PySem.W.fnOf "check_number" "check_number" (defArgs s_check_number) (defBody s_check_number) (defScope s_check_number) .none kV10 dc10 pm10 an10 cd10 ct10), sl10⟩) (c10 : PySem.W.codeIn K cd10 "check_number" = true) (k10 : PySem.W.keepIn K (.ref f10) = true)
    (a11 : PySem.W.nsIn K mainGlobals "answer" = some (some (.ref f11))) (l11 : K.lookup f11 = some ⟨oc11, od11, .func (PySem.W.fnOf "answer" "answer" (defArgs s_answer) (defBody s_answer) (defScope s_answer) .none kV11 dc11 pm11 an11 cd11 ct11), sl11⟩) (c11 : PySem.W.codeIn K cd11 "answer" = true) (k11 : PySem.W.keepIn K (.ref f11) = true)
    (a12 : PySem.W.nsIn K mainGlobals "_law_cell_at" = some (some (.ref f12))) (l12 : K.lookup f12 = some ⟨oc12, od12, .func (PySem.W.fnOf "_law_cell_at" "_law_cell_at" (defArgs s__law_cell_at) (defBody s__law_cell_at) (defScope s__law_cell_at) .none kV12 dc12 pm12 an12 cd12 ct12), sl12⟩) (c12 : PySem.W.codeIn K cd12 "_law_cell_at" = true) (k12 : PySem.W.keepIn K (.ref f12) = true)
    (a13 : PySem.W.nsIn K mainGlobals "_law_whole" = some (some (.ref f13))) (l13 : K.lookup f13 = some ⟨oc13, od13, .func (PySem.W.fnOf "_law_whole" "_law_whole" (defArgs s__law_whole) (defBody s__law_whole) (defScope s__law_whole) .none kV13 dc13 pm13 an13 cd13 ct13), sl13⟩) (c13 : PySem.W.codeIn K cd13 "_law_whole" = true) (k13 : PySem.W.keepIn K (.ref f13) = true)
    (a14 : PySem.W.nsIn K mainGlobals "_law_mixed" = some (some (.ref f14))) (l14 : K.lookup f14 = some ⟨oc14, od14, .func (PySem.W.fnOf "_law_mixed" "_law_mixed" (defArgs s__law_mixed) (defBody s__law_mixed) (defScope s__law_mixed) .none kV14 dc14 pm14 an14 cd14 ct14), sl14⟩) (c14 : PySem.W.codeIn K cd14 "_law_mixed" = true) (k14 : PySem.W.keepIn K (.ref f14) = true)
    (a15 : PySem.W.nsIn K mainGlobals "_law_truths" = some (some (.ref f15))) (l15 : K.lookup f15 = some ⟨oc15, od15, .func (PySem.W.fnOf "_law_truths" "_law_truths" (defArgs s__law_truths) (defBody s__law_truths) (defScope s__law_truths) .none kV15 dc15 pm15 an15 cd15 ct15), sl15⟩) (c15 : PySem.W.codeIn K cd15 "_law_truths" = true) (k15 : PySem.W.keepIn K (.ref f15) = true)
    (a16 : PySem.W.nsIn K mainGlobals "_law_kind_by" = some (some (.ref f16))) (l16 : K.lookup f16 = some ⟨oc16, od16, .func (PySem.W.fnOf "_law_kind_by" "_law_kind_by" (defArgs s__law_kind_by) (defBody s__law_kind_by) (defScope s__law_kind_by) .none kV16 dc16 pm16 an16 cd16 ct16), sl16⟩) (c16 : PySem.W.codeIn K cd16 "_law_kind_by" = true) (k16 : PySem.W.keepIn K (.ref f16) = true)
    (a17 : PySem.W.nsIn K mainGlobals "_law_bounds" = some (some (.ref f17))) (l17 : K.lookup f17 = some ⟨oc17, od17, .func (PySem.W.fnOf "_law_bounds" "_law_bounds" (defArgs s__law_bounds) (defBody s__law_bounds) (defScope s__law_bounds) .none kV17 dc17 pm17 an17 cd17 ct17), sl17⟩) (c17 : PySem.W.codeIn K cd17 "_law_bounds" = true) (k17 : PySem.W.keepIn K (.ref f17) = true)
    (a18 : PySem.W.nsIn K mainGlobals "_law_word" = some (some (.ref f18))) (l18 : K.lookup f18 = some ⟨oc18, od18, .func (PySem.W.fnOf "_law_word" "_law_word" (defArgs s__law_word) (defBody s__law_word) (defScope s__law_word) .none kV18 dc18 pm18 an18 cd18 ct18), sl18⟩) (c18 : PySem.W.codeIn K cd18 "_law_word" = true) (k18 : PySem.W.keepIn K (.ref f18) = true)
    (a19 : PySem.W.nsIn K mainGlobals "_law_refused_by_any" = some (some (.ref f19))) (l19 : K.lookup f19 = some ⟨oc19, od19, .func (PySem.W.fnOf "_law_refused_by_any" "_law_refused_by_any" (defArgs s__law_refused_by_any) (defBody s__law_refused_by_any) (defScope s__law_refused_by_any) .none kV19 dc19 pm19 an19 cd19 ct19), sl19⟩) (c19 : PySem.W.codeIn K cd19 "_law_refused_by_any" = true) (k19 : PySem.W.keepIn K (.ref f19) = true)
    (a20 : PySem.W.nsIn K mainGlobals "law" = some (some (.ref f20))) (l20 : K.lookup f20 = some ⟨oc20, od20, .func (PySem.W.fnOf "law" "law" (defArgs s_law) (defBody s_law) (defScope s_law) .none kV20 dc20 pm20 an20 cd20 ct20), sl20⟩) (c20 : PySem.W.codeIn K cd20 "law" = true) (k20 : PySem.W.keepIn K (.ref f20) = true)
    (xa0 : PySem.W.nsIn K mainGlobals "NoKind" = some (some (.ref C0))) (xf0 : ExcBaseFacts "ValueError" "ValueError.__new__" "ValueError.__init__" bm0) (xe0 : PySem.W.excIn K C0 bm0 "ValueError.__new__" = true) (xk0 : PySem.W.keepIn K (.ref C0) = true) (xb0 : PySem.W.subIn K (.ref C0) (.type "BaseException") = some true) (xt0 : PySem.W.typeIn K (.ref C0) = some (.type "type"))
    (xa1 : PySem.W.nsIn K mainGlobals "NoSources" = some (some (.ref C1))) (xf1 : ExcBaseFacts "ValueError" "ValueError.__new__" "ValueError.__init__" bm1) (xe1 : PySem.W.excIn K C1 bm1 "ValueError.__new__" = true) (xk1 : PySem.W.keepIn K (.ref C1) = true) (xb1 : PySem.W.subIn K (.ref C1) (.type "BaseException") = some true) (xt1 : PySem.W.typeIn K (.ref C1) = some (.type "type"))
    (z0 : PySem.W.nsIn K mainGlobals "len" = some none)
    (z1 : PySem.W.nsIn K mainGlobals "all" = some none)
    (z2 : PySem.W.nsIn K mainGlobals "any" = some none)
    (z3 : PySem.W.nsIn K mainGlobals "sum" = some none)
    (z4 : PySem.W.nsIn K mainGlobals "range" = some none)
    (z5 : PySem.W.nsIn K mainGlobals "isinstance" = some none)
    (z6 : PySem.W.nsIn K mainGlobals "int" = some none)
    (z7 : PySem.W.nsIn K mainGlobals "bool" = some none)
    (z8 : PySem.W.nsIn K mainGlobals "tuple" = some none)
    (z9 : PySem.W.nsIn K mainGlobals "ValueError" = some none)
    (aN : PySem.W.nsIn K mainGlobals "NUMBERS" = some (some (.ref dN))) (lN : K.lookup dN = some ⟨.type "dict", none, .dict eN nN, #[]⟩) (sN : (dN == sysModules) = false) (tN : PySem.W.KeysLit w.params eN.toList)
    (aR : PySem.W.nsIn K mainGlobals "RULES" = some (some (.ref dR))) (lR : K.lookup dR = some ⟨.type "dict", none, .dict eR nR, #[]⟩) (sR : (dR == sysModules) = false) (tR : PySem.W.KeysLit w.params eR.toList)
    (vN : Nine eN.toList (fun i => .ref (([p0, p1, p2, p3, p4, p5, p6, p7, p8] : List Addr).getD i 0))) (vR : Nine eR.toList (fun i => .ref (([f0, f1, f2, f3, f4, f5, f6, f7, f8] : List Addr).getD i 0)))
    (q0 : K.lookup p0 = some ⟨.type "tuple", td0, .seq #[.int (lo 0) ta0, .int (hi 0) tb0] tn0, ts0⟩) (q1 : K.lookup p1 = some ⟨.type "tuple", td1, .seq #[.int (lo 1) ta1, .int (hi 1) tb1] tn1, ts1⟩) (q2 : K.lookup p2 = some ⟨.type "tuple", td2, .seq #[.int (lo 2) ta2, .int (hi 2) tb2] tn2, ts2⟩) (q3 : K.lookup p3 = some ⟨.type "tuple", td3, .seq #[.int (lo 3) ta3, .int (hi 3) tb3] tn3, ts3⟩) (q4 : K.lookup p4 = some ⟨.type "tuple", td4, .seq #[.int (lo 4) ta4, .int (hi 4) tb4] tn4, ts4⟩) (q5 : K.lookup p5 = some ⟨.type "tuple", td5, .seq #[.int (lo 5) ta5, .int (hi 5) tb5] tn5, ts5⟩) (q6 : K.lookup p6 = some ⟨.type "tuple", td6, .seq #[.int (lo 6) ta6, .int (hi 6) tb6] tn6, ts6⟩) (q7 : K.lookup p7 = some ⟨.type "tuple", td7, .seq #[.int (lo 7) ta7, .int (hi 7) tb7] tn7, ts7⟩) (q8 : K.lookup p8 = some ⟨.type "tuple", td8, .seq #[.int (lo 8) ta8, .int (hi 8) tb8] tn8, ts8⟩)
    (sa : PySem.W.nsIn K mainGlobals "SignalError" = some (some (.ref C2))) (xb2 : PySem.W.subIn K (.ref C2) (.type "BaseException") = some true) (xt2 : PySem.W.typeIn K (.ref C2) = some (.type "type")) (hd0 : PySem.W.hasDictIn K C0 = true) (hd1 : PySem.W.hasDictIn K C1 = true) (hd2 : PySem.W.hasDictIn K C2 = true) (s00 : PySem.W.subIn K (.ref C0) (.ref C0) = some true) (s10 : PySem.W.subIn K (.ref C1) (.ref C0) = some false) (s01 : PySem.W.subIn K (.ref C0) (.ref C1) = some false) (s11 : PySem.W.subIn K (.ref C1) (.ref C1) = some true) (s02 : PySem.W.subIn K (.ref C0) (.ref C2) = some true) (s12 : PySem.W.subIn K (.ref C1) (.ref C2) = some true) (ig0 : PySem.W.findIn K (.ref C0) "__getattribute__" = some (some (.builtin "BaseException.__getattribute__"))) (ik0 : PySem.W.findIn K (.ref C0) "__getattr__" = some none) (ia0 : PySem.W.findIn K (.ref C0) "__class__" = some (some (.builtin "object.__class__"))) (im0 : PySem.W.mroIn K C0 (.type "object") = some true) (it0 : PySem.W.kitOne K (.ref C0) (.type "ValueError") = some true) (ig1 : PySem.W.findIn K (.ref C1) "__getattribute__" = some (some (.builtin "BaseException.__getattribute__"))) (ik1 : PySem.W.findIn K (.ref C1) "__getattr__" = some none) (ia1 : PySem.W.findIn K (.ref C1) "__class__" = some (some (.builtin "object.__class__"))) (im1 : PySem.W.mroIn K C1 (.type "object") = some true) (it1 : PySem.W.kitOne K (.ref C1) (.type "ValueError") = some true) (inn : PySem.W.specialIn K (.builtin "object.__class__") "__get__" = some (some (.builtin "getset_descriptor.__get__"))) (itt : PySem.W.takesIn K (.builtin "object.__class__") = some true) :
    ∃ fd : FuncData, (∀ (s : Shared) (v : Value), BindsTo s fd ⟨[v], []⟩ [("_law_script", v)]) ∧ ∀ base : Heap, K.In base → base.Ns mainGlobals mg → FnOk l.prog w K mg base (L2.CX l.prog w) 5 fa fd ["_law_script"] (spLaw K) := by
  have e := hfa.symm.trans (PySem.W.mg_of X G a20)
  cases e
  have F0 := fun_mk (st := s__yes) l0 c0 k0
  have b0 := F0.binds (ps := ["given"]) fun _ _ _ _ _ _ us hl => match us, hl with | [_], _ => rfl
  have g0 := PySem.W.mg_of X G a0
  have F1 := fun_mk (st := s__no) l1 c1 k1
  have b1 := F1.binds (ps := ["given"]) fun _ _ _ _ _ _ us hl => match us, hl with | [_], _ => rfl
  have g1 := PySem.W.mg_of X G a1
  have F2 := fun_mk (st := s__keep) l2 c2 k2
  have b2 := F2.binds (ps := ["given"]) fun _ _ _ _ _ _ us hl => match us, hl with | [_], _ => rfl
  have g2 := PySem.W.mg_of X G a2
  have F3 := fun_mk (st := s__not) l3 c3 k3
  have b3 := F3.binds (ps := ["given"]) fun _ _ _ _ _ _ us hl => match us, hl with | [_], _ => rfl
  have g3 := PySem.W.mg_of X G a3
  have F4 := fun_mk (st := s__both) l4 c4 k4
  have b4 := F4.binds (ps := ["given"]) fun _ _ _ _ _ _ us hl => match us, hl with | [_], _ => rfl
  have g4 := PySem.W.mg_of X G a4
  have F5 := fun_mk (st := s__either) l5 c5 k5
  have b5 := F5.binds (ps := ["given"]) fun _ _ _ _ _ _ us hl => match us, hl with | [_], _ => rfl
  have g5 := PySem.W.mg_of X G a5
  have F6 := fun_mk (st := s__unlike) l6 c6 k6
  have b6 := F6.binds (ps := ["given"]) fun _ _ _ _ _ _ us hl => match us, hl with | [_], _ => rfl
  have g6 := PySem.W.mg_of X G a6
  have F7 := fun_mk (st := s__pick) l7 c7 k7
  have b7 := F7.binds (ps := ["given"]) fun _ _ _ _ _ _ us hl => match us, hl with | [_], _ => rfl
  have g7 := PySem.W.mg_of X G a7
  have F8 := fun_mk (st := s__most) l8 c8 k8
  have b8 := F8.binds (ps := ["given"]) fun _ _ _ _ _ _ us hl => match us, hl with | [_], _ => rfl
  have g8 := PySem.W.mg_of X G a8
  have F9 := fun_mk (st := s_wants) l9 c9 k9
  have b9 := F9.binds (ps := ["kind"]) fun _ _ _ _ _ _ us hl => match us, hl with | [_], _ => rfl
  have g9 := PySem.W.mg_of X G a9
  have F10 := fun_mk (st := s_check_number) l10 c10 k10
  have b10 := F10.binds (ps := ["kind", "number"]) fun _ _ _ _ _ _ us hl => match us, hl with | [_, _], _ => rfl
  have g10 := PySem.W.mg_of X G a10
  have F11 := fun_mk (st := s_answer) l11 c11 k11
  have b11 := F11.binds (ps := ["kind", "given"]) fun _ _ _ _ _ _ us hl => match us, hl with | [_, _], _ => rfl
  have g11 := PySem.W.mg_of X G a11
  have F12 := fun_mk (st := s__law_cell_at) l12 c12 k12
  have b12 := F12.binds (ps := ["_law_script", "_law_k"]) fun _ _ _ _ _ _ us hl => match us, hl with | [_, _], _ => rfl
  have g12 := PySem.W.mg_of X G a12
  have F13 := fun_mk (st := s__law_whole) l13 c13 k13
  have b13 := F13.binds (ps := ["_law_found"]) fun _ _ _ _ _ _ us hl => match us, hl with | [_], _ => rfl
  have g13 := PySem.W.mg_of X G a13
  have F14 := fun_mk (st := s__law_mixed) l14 c14 k14
  have b14 := F14.binds (ps := ["_law_cell", "_law_k", "_law_many"]) fun _ _ _ _ _ _ us hl => match us, hl with | [_, _, _], _ => rfl
  have g14 := PySem.W.mg_of X G a14
  have F15 := fun_mk (st := s__law_truths) l15 c15 k15
  have b15 := F15.binds (ps := ["_law_cell", "_law_many"]) fun _ _ _ _ _ _ us hl => match us, hl with | [_, _], _ => rfl
  have g15 := PySem.W.mg_of X G a15
  have F16 := fun_mk (st := s__law_kind_by) l16 c16 k16
  have b16 := F16.binds (ps := ["_law_cell"]) fun _ _ _ _ _ _ us hl => match us, hl with | [_], _ => rfl
  have g16 := PySem.W.mg_of X G a16
  have F17 := fun_mk (st := s__law_bounds) l17 c17 k17
  have b17 := F17.binds (ps := ["_law_kind"]) fun _ _ _ _ _ _ us hl => match us, hl with | [_], _ => rfl
  have g17 := PySem.W.mg_of X G a17
  have F18 := fun_mk (st := s__law_word) l18 c18 k18
  have b18 := F18.binds (ps := ["_law_kind", "_law_given"]) fun _ _ _ _ _ _ us hl => match us, hl with | [_, _], _ => rfl
  have g18 := PySem.W.mg_of X G a18
  have F19 := fun_mk (st := s__law_refused_by_any) l19 c19 k19
  have b19 := F19.binds (ps := ["_law_kind", "_law_given"]) fun _ _ _ _ _ _ us hl => match us, hl with | [_, _], _ => rfl
  have g19 := PySem.W.mg_of X G a19
  have F20 := fun_mk (st := s_law) l20 c20 k20
  have b20 := F20.binds (ps := ["_law_script"]) fun _ _ _ _ _ _ us hl => match us, hl with | [_], _ => rfl
  have g20 := PySem.W.mg_of X G a20
  have m0 := PySem.W.mg_none_of X G z0
  have m1 := PySem.W.mg_none_of X G z1
  have m2 := PySem.W.mg_none_of X G z2
  have m3 := PySem.W.mg_none_of X G z3
  have m4 := PySem.W.mg_none_of X G z4
  have m5 := PySem.W.mg_none_of X G z5
  have m6 := PySem.W.mg_none_of X G z6
  have m7 := PySem.W.mg_none_of X G z7
  have m8 := PySem.W.mg_none_of X G z8
  have m9 := PySem.W.mg_none_of X G z9
  refine ⟨PySem.W.fnOf "law" "law" (defArgs s_law) (defBody s_law) (defScope s_law) .none kV20 dc20 pm20 an20 cd20 ct20, fun s v => .of_eq rfl, fun base _ _ => ?_⟩
  have cvs : ∃ cv : Nat → Value, cv 0 = .ref C0 ∧ cv 1 = .ref C1 := ⟨fun n => match n with | 0 => .ref C0 | _ => .ref C1, rfl, rfl⟩
  obtain ⟨cv, cv0, cv1⟩ := cvs
  have x_NoKind : ExcAt K mg cv "NoKind" 0 := ⟨C0, bm0, PySem.W.mg_of X G xa0, xe0, xf0, xk0, xb0, xt0, cv0⟩
  have x_NoSources : ExcAt K mg cv "NoSources" 1 := ⟨C1, bm1, PySem.W.mg_of X G xa1, xe1, xf1, xk1, xb1, xt1, cv1⟩
  have nN := nine_at lN vN
  have nR := nine_at lR vR
  have t_NUMBERS : TabD K w mg "NUMBERS" tbN := by
    refine ⟨dN, eN, _, PySem.W.mg_of X G aN, ⟨lN, tN, sN⟩, fun z hz => ?_, fun z y hy => ?_⟩
    · unfold tbN at hz
      rw [nN z]
      cases q : kindIx z with
      | none => rfl
      | some i => rw [q] at hz; cases hz
    · unfold tbN at hy
      rw [nN z]
      cases q : kindIx z with
      | none => rw [q] at hy; cases hy
      | some i =>
        rw [q] at hy
        cases hy
        have hi := ix_lt q
        refine ⟨_, .ref (([p0, p1, p2, p3, p4, p5, p6, p7, p8] : List Addr).getD i 0), rfl, rfl, two_dp ?_⟩
        match i, hi with
        | 0, _ => exact ⟨_, _, _, _, q0, rfl, rfl⟩ | 1, _ => exact ⟨_, _, _, _, q1, rfl, rfl⟩ | 2, _ => exact ⟨_, _, _, _, q2, rfl, rfl⟩ | 3, _ => exact ⟨_, _, _, _, q3, rfl, rfl⟩ | 4, _ => exact ⟨_, _, _, _, q4, rfl, rfl⟩ | 5, _ => exact ⟨_, _, _, _, q5, rfl, rfl⟩ | 6, _ => exact ⟨_, _, _, _, q6, rfl, rfl⟩ | 7, _ => exact ⟨_, _, _, _, q7, rfl, rfl⟩ | 8, _ => exact ⟨_, _, _, _, q8, rfl, rfl⟩
        | n + 9, h => omega
  have r0 := h__yes (P := l.prog) (w := w) (base := base) (cv := cv) F0 g0 b0
  have r1 := h__no (P := l.prog) (w := w) (base := base) (cv := cv) F1 g1 b1
  have r2 := h__keep (P := l.prog) (w := w) (base := base) (cv := cv) F2 g2 b2
  have r3 := h__not (P := l.prog) (w := w) (base := base) (cv := cv) F3 g3 b3
  have r4 := h__both (P := l.prog) (w := w) (base := base) (cv := cv) F4 g4 b4 m1
  have r5 := h__either (P := l.prog) (w := w) (base := base) (cv := cv) F5 g5 b5 m2
  have r6 := h__unlike (P := l.prog) (w := w) (base := base) (cv := cv) F6 g6 b6 m3
  have r7 := h__pick (P := l.prog) (w := w) (base := base) (cv := cv) F7 g7 b7
  have r8 := h__most (P := l.prog) (w := w) (base := base) (cv := cv) F8 g8 b8 m3
  have pick : ∀ {x : Str} {i : Nat} {f : Addr}, Has l.prog w K mg base cv x ["given"] 1 (g_rule i) → mg x = some (.ref f) → ∃ f' fd ps, some (some (Value.ref f)) = some (some (.ref f')) ∧ FnOk l.prog w K mg base (L2.CX l.prog w) 1 f' fd ps (SpD K cv (g_rule i)) ∧ PySem.W.keepIn K (.ref f') = true ∧ Binds K fd ps [] := fun {x i f} hh hm => by
    obtain ⟨f', fd, F, m, kp, b⟩ := hh.ex
    rw [hm] at m
    cases m
    exact ⟨_, fd, _, rfl, F, kp, b⟩
  have t_RULES : TabF l.prog w K mg base cv "RULES" 1 tbR := by
    refine ⟨dR, eR, _, PySem.W.mg_of X G aR, ⟨lR, tR, sR⟩, fun z g hz => ?_⟩
    unfold tbR at hz
    rw [nR z]
    cases q : kindIx z with
    | none => rw [q] at hz; cases hz
    | some i =>
      rw [q] at hz
      cases hz
      have hi := ix_lt q
      match i, hi with
      | 0, _ => exact pick r0 g0 | 1, _ => exact pick r1 g1 | 2, _ => exact pick r2 g2 | 3, _ => exact pick r3 g3 | 4, _ => exact pick r4 g4 | 5, _ => exact pick r5 g5 | 6, _ => exact pick r6 g6 | 7, _ => exact pick r7 g7 | 8, _ => exact pick r8 g8
      | n + 9, h => omega
  have n_NoKind := PySem.W.mg_of X G xa0
  have n_NoSources := PySem.W.mg_of X G xa1
  have n_SignalError := PySem.W.mg_of X G sa
  have e_NoKind : ∀ k b, p_NoKind k = some b → PySem.W.exmOne K (cv k) (.ref C0) = some b := fun k b h => by
    match k with
    | 0 => cases h; rw [cv0]; exact PySem.W.exm_ref xb0 hd0 xt0 s00
    | 1 => cases h; rw [cv1]; exact PySem.W.exm_ref xb0 hd0 xt0 s10
    | n + 2 => cases h
  have e_NoSources : ∀ k b, p_NoSources k = some b → PySem.W.exmOne K (cv k) (.ref C1) = some b := fun k b h => by
    match k with
    | 0 => cases h; rw [cv0]; exact PySem.W.exm_ref xb1 hd1 xt1 s01
    | 1 => cases h; rw [cv1]; exact PySem.W.exm_ref xb1 hd1 xt1 s11
    | n + 2 => cases h
  have e_SignalError : ∀ k b, p_SignalError k = some b → PySem.W.exmOne K (cv k) (.ref C2) = some b := fun k b h => by
    match k with
    | 0 => cases h; rw [cv0]; exact PySem.W.exm_ref xb2 hd2 xt2 s02
    | 1 => cases h; rw [cv1]; exact PySem.W.exm_ref xb2 hd2 xt2 s12
    | n + 2 => cases h
  have i_SignalError : ∀ k, p_SignalError k = some true → IsErr K (cv k) := fun k h => by
    match k with
    | 0 => exact ⟨C0, cv0, ⟨ig0, ik0, xb0, hd0, ia0, inn, itt, im0⟩, it0⟩
    | 1 => exact ⟨C1, cv1, ⟨ig1, ik1, xb1, hd1, ia1, inn, itt, im1⟩, it1⟩
    | n + 2 => cases h
  have hw := h_wants (P := l.prog) (w := w) (base := base) (cv := cv) F9 g9 b9 t_NUMBERS x_NoKind
  have hc := h_check_number F10 g10 b10 hw x_NoSources
  have ha := h_answer F11 g11 b11 hc t_RULES m0
  have hcell := h__law_cell_at (P := l.prog) (w := w) (base := base) (cv := cv) F12 g12 b12 m0
  have hwh := h__law_whole (P := l.prog) (w := w) (base := base) (cv := cv) F13 g13 b13 m5 m6 m7
  have hmx := h__law_mixed (P := l.prog) (w := w) (base := base) (cv := cv) F14 g14 b14
  have htr := h__law_truths F15 g15 b15 hmx m4
  have hkb := h__law_kind_by F16 g16 b16 hmx m0
  have hbd := h__law_bounds (P := l.prog) (w := w) (base := base) (cv := cv) F17 g17 b17 m4
  have hwd := h__law_word F18 g18 b18 ha m5 m7 n_NoKind n_NoSources e_NoKind e_NoSources
  have hrf := h__law_refused_by_any F19 g19 b19 ha m5 m9 n_SignalError e_SignalError i_SignalError
  have hl := h_law F20 g20 b20 hcell hkb hbd htr hw hwd hrf hwh m0 m5 m8 n_NoKind e_NoKind
  exact law_ok hl fun ns _ => by
    unfold g_law
    dsimp only
    rw [ints_of]
end K2
open PySem PySem.W PyProof.Rows
set_option maxHeartbeats 0 in
theorem PySem.Challenge.cw_signalgraph_k02_kinds_and_sources_holds : PySem.Challenge.rw_signalgraph_k02_kinds_and_sources.Holds := by
  w_on; o_law; k_head; (case hw => w_witness2)
  k_fill
  refine L2.walk_of (l := PySem.Challenge.rw_signalgraph_k02_kinds_and_sources) (n := 63) (k := 5) (x := "_law_script") (CX := fun w => L2.CX PySem.Challenge.rw_signalgraph_k02_kinds_and_sources.prog w) (sp := fun w => K2.spLaw _) rfl (by decide) rfl ⟨rfl, by decide, by decide⟩ (fun w h Y => PySem.W.kIn_of Y) ?F (fun _ _ a ns hl _ hS => ⟨a, ns, rfl, hS, hl, fun _ => rfl⟩) (fun _ _ _ _ _ h => ?H)
  case H =>
    obtain ⟨_, _, _, _, _, _, _, _, _, _, _, _, z⟩ := h
    exact z.elim
  case F =>
    intro w mg fa h KX G hmg
    refine' K2.all_mk KX G hmg ?a0 ?l0 ?c0 ?k0 ?a1 ?l1 ?c1 ?k1 ?a2 ?l2 ?c2 ?k2 ?a3 ?l3 ?c3 ?k3 ?a4 ?l4 ?c4 ?k4 ?a5 ?l5 ?c5 ?k5 ?a6 ?l6 ?c6 ?k6 ?a7 ?l7 ?c7 ?k7 ?a8 ?l8 ?c8 ?k8 ?a9 ?l9 ?c9 ?k9 ?a10 ?l10 ?c10 ?k10 ?a11 ?l11 ?c11 ?k11 ?a12 ?l12 ?c12 ?k12 ?a13 ?l13 ?c13 ?k13 ?a14 ?l14 ?c14 ?k14 ?a15 ?l15 ?c15 ?k15 ?a16 ?l16 ?c16 ?k16 ?a17 ?l17 ?c17 ?k17 ?a18 ?l18 ?c18 ?k18 ?a19 ?l19 ?c19 ?k19 ?a20 ?l20 ?c20 ?k20 ?xa0 ?xf0 ?xe0 ?xk0 ?xb0 ?xt0 ?xa1 ?xf1 ?xe1 ?xk1 ?xb1 ?xt1 ?z0 ?z1 ?z2 ?z3 ?z4 ?z5 ?z6 ?z7 ?z8 ?z9 ?aN ?lN ?sN ?tN ?aR ?lR ?sR ?tR ?vN ?vR ?q0 ?q1 ?q2 ?q3 ?q4 ?q5 ?q6 ?q7 ?q8 ?sa ?xb2 ?xt2 ?hd0 ?hd1 ?hd2 ?s00 ?s10 ?s01 ?s11 ?s02 ?s12 ?ig0 ?ik0 ?ia0 ?im0 ?it0 ?ig1 ?ik1 ?ia1 ?im1 ?it1 ?inn ?itt
    (case a0 => k_is)
    (case l0 => k_is)
    (case c0 => k_is)
    (case k0 => k_is)
    (case a1 => k_is)
    (case l1 => k_is)
    (case c1 => k_is)
    (case k1 => k_is)
    (case a2 => k_is)
    (case l2 => k_is)
    (case c2 => k_is)
    (case k2 => k_is)
    (case a3 => k_is)
    (case l3 => k_is)
    (case c3 => k_is)
    (case k3 => k_is)
    (case a4 => k_is)
    (case l4 => k_is)
    (case c4 => k_is)
    (case k4 => k_is)
    (case a5 => k_is)
    (case l5 => k_is)
    (case c5 => k_is)
    (case k5 => k_is)
    (case a6 => k_is)
    (case l6 => k_is)
    (case c6 => k_is)
    (case k6 => k_is)
    (case a7 => k_is)
    (case l7 => k_is)
    (case c7 => k_is)
    (case k7 => k_is)
    (case a8 => k_is)
    (case l8 => k_is)
    (case c8 => k_is)
    (case k8 => k_is)
    (case a9 => k_is)
    (case l9 => k_is)
    (case c9 => k_is)
    (case k9 => k_is)
    (case a10 => k_is)
    (case l10 => k_is)
    (case c10 => k_is)
    (case k10 => k_is)
    (case a11 => k_is)
    (case l11 => k_is)
    (case c11 => k_is)
    (case k11 => k_is)
    (case a12 => k_is)
    (case l12 => k_is)
    (case c12 => k_is)
    (case k12 => k_is)
    (case a13 => k_is)
    (case l13 => k_is)
    (case c13 => k_is)
    (case k13 => k_is)
    (case a14 => k_is)
    (case l14 => k_is)
    (case c14 => k_is)
    (case k14 => k_is)
    (case a15 => k_is)
    (case l15 => k_is)
    (case c15 => k_is)
    (case k15 => k_is)
    (case a16 => k_is)
    (case l16 => k_is)
    (case c16 => k_is)
    (case k16 => k_is)
    (case a17 => k_is)
    (case l17 => k_is)
    (case c17 => k_is)
    (case k17 => k_is)
    (case a18 => k_is)
    (case l18 => k_is)
    (case c18 => k_is)
    (case k18 => k_is)
    (case a19 => k_is)
    (case l19 => k_is)
    (case c19 => k_is)
    (case k19 => k_is)
    (case a20 => k_is)
    (case l20 => k_is)
    (case c20 => k_is)
    (case k20 => k_is)
    (case xa0 => k_is)
    (case xf0 => exact PySem.F.excBase_ValueError)
    (case xe0 => k_exc)
    (case xk0 => k_is)
    (case xb0 => k_is)
    (case xt0 => k_is)
    (case xa1 => k_is)
    (case xf1 => exact PySem.F.excBase_ValueError)
    (case xe1 => k_exc)
    (case xk1 => k_is)
    (case xb1 => k_is)
    (case xt1 => k_is)
    (case z0 => k_is)
    (case z1 => k_is)
    (case z2 => k_is)
    (case z3 => k_is)
    (case z4 => k_is)
    (case z5 => k_is)
    (case z6 => k_is)
    (case z7 => k_is)
    (case z8 => k_is)
    (case z9 => k_is)
    (case sa => first | rfl | k_is)
    (case xb2 => first | rfl | k_is)
    (case xt2 => first | rfl | k_is)
    (case hd0 => first | rfl | k_is)
    (case hd1 => first | rfl | k_is)
    (case hd2 => first | rfl | k_is)
    (case s00 => first | rfl | k_is)
    (case s10 => first | rfl | k_is)
    (case s01 => first | rfl | k_is)
    (case s11 => first | rfl | k_is)
    (case s02 => first | rfl | k_is)
    (case s12 => first | rfl | k_is)
    (case ig0 => first | rfl | k_is)
    (case ik0 => first | rfl | k_is)
    (case ia0 => first | rfl | k_is)
    (case im0 => first | rfl | k_is)
    (case it0 => first | rfl | k_is)
    (case ig1 => first | rfl | k_is)
    (case ik1 => first | rfl | k_is)
    (case ia1 => first | rfl | k_is)
    (case im1 => first | rfl | k_is)
    (case it1 => first | rfl | k_is)
    (case inn => first | rfl | k_is)
    (case itt => first | rfl | k_is)
    (case aN => k_is); (case lN => k_is); (case sN => decide); (case tN => exact ⟨⟨_, _, rfl, rfl⟩, ⟨_, _, rfl, rfl⟩, ⟨_, _, rfl, rfl⟩, ⟨_, _, rfl, rfl⟩, ⟨_, _, rfl, rfl⟩, ⟨_, _, rfl, rfl⟩, ⟨_, _, rfl, rfl⟩, ⟨_, _, rfl, rfl⟩, ⟨_, _, rfl, rfl⟩, trivial⟩)
    (case aR => k_is); (case lR => k_is); (case sR => decide); (case tR => exact ⟨⟨_, _, rfl, rfl⟩, ⟨_, _, rfl, rfl⟩, ⟨_, _, rfl, rfl⟩, ⟨_, _, rfl, rfl⟩, ⟨_, _, rfl, rfl⟩, ⟨_, _, rfl, rfl⟩, ⟨_, _, rfl, rfl⟩, ⟨_, _, rfl, rfl⟩, ⟨_, _, rfl, rfl⟩, trivial⟩)
    (case vN => exact ⟨rfl, fun i hi => match i, hi with | 0, _ => ⟨_, _, rfl⟩ | 1, _ => ⟨_, _, rfl⟩ | 2, _ => ⟨_, _, rfl⟩ | 3, _ => ⟨_, _, rfl⟩ | 4, _ => ⟨_, _, rfl⟩ | 5, _ => ⟨_, _, rfl⟩ | 6, _ => ⟨_, _, rfl⟩ | 7, _ => ⟨_, _, rfl⟩ | 8, _ => ⟨_, _, rfl⟩ | n + 9, h => absurd h (by omega)⟩)
    (case vR => exact ⟨rfl, fun i hi => match i, hi with | 0, _ => ⟨_, _, rfl⟩ | 1, _ => ⟨_, _, rfl⟩ | 2, _ => ⟨_, _, rfl⟩ | 3, _ => ⟨_, _, rfl⟩ | 4, _ => ⟨_, _, rfl⟩ | 5, _ => ⟨_, _, rfl⟩ | 6, _ => ⟨_, _, rfl⟩ | 7, _ => ⟨_, _, rfl⟩ | 8, _ => ⟨_, _, rfl⟩ | n + 9, h => absurd h (by omega)⟩)
    (case q0 => k_is)
    (case q1 => k_is)
    (case q2 => k_is)
    (case q3 => k_is)
    (case q4 => k_is)
    (case q5 => k_is)
    (case q6 => k_is)
    (case q7 => k_is)
    (case q8 => k_is)
