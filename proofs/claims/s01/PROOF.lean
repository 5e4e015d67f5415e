import PyProof.Rows.All
import Wide.All
import OpenK.AllK
import Wide.FinOn
import HandS.ForMost
import HandS.Rev
import PyProof.Rows.CallKwBuiltin
import PyProof.Rows.CallKw2
import KE.GoesEnumKw
import HandS.ForSpec
import HandS.SortKw
import HandS.ExcValue
import KE.SortKeyHeap
import Open.SpecLaws
import KE.OsGo
import HandS.Codes
import HandS.Evl
import HandS.Flow
import HandS.Walk
import HandS.Words
import HandS.Deep
import HandS.More
import KE.OsHead
import PySem.Challenge.RW_nearstretches_s01_answers
import PyRh06
set_option Elab.async false
/-! Nearness: the mathematics of least stretches, over the specification's functions; plain Lean. -/
namespace Ns
open Rh06 (Stretch isIn wide push)
/-- begins rise, and ends with them -/
def Rising (l : List Stretch) : Prop := l.Pairwise fun a b => a.1 < b.1 ∧ a.2 < b.2
/-- one lies in another -/
def In (x y : Stretch) : Prop := y.1 ≤ x.1 ∧ x.2 ≤ y.2
/-- l holds just the least of S, in order -/
structure Least (S : Stretch → Prop) (l : List Stretch) : Prop where
  ris : Rising l
  mem : ∀ x, x ∈ l → S x
  cov : ∀ x, S x → ∃ y, y ∈ l ∧ In y x
theorem isIn_iff {x y : Stretch} : isIn x y = true ↔ In x y := by
  unfold isIn In
  simp
theorem ext2 {x y : Stretch} (h1 : x.1 = y.1) (h2 : x.2 = y.2) : x = y := Prod.ext h1 h2
theorem In.refl (x : Stretch) : In x x := ⟨Nat.le_refl _, Nat.le_refl _⟩
theorem In.trans {x y z : Stretch} (h : In x y) (k : In y z) : In x z := ⟨Nat.le_trans k.1 h.1, Nat.le_trans h.2 k.2⟩
theorem In.anti {x y : Stretch} (h : In x y) (k : In y x) : x = y := ext2 (Nat.le_antisymm k.1 h.1) (Nat.le_antisymm h.2 k.2)
theorem Rising.nil : Rising [] := List.Pairwise.nil
theorem Rising.cons {a : Stretch} {l : List Stretch} : Rising (a :: l) ↔ (∀ b ∈ l, a.1 < b.1 ∧ a.2 < b.2) ∧ Rising l := List.pairwise_cons
theorem Rising.tail {a : Stretch} {l : List Stretch} (h : Rising (a :: l)) : Rising l := (Rising.cons.mp h).2
theorem Rising.head {a : Stretch} {l : List Stretch} (h : Rising (a :: l)) : ∀ b ∈ l, a.1 < b.1 ∧ a.2 < b.2 := (Rising.cons.mp h).1
theorem Rising.sub {l r : List Stretch} (h : Rising r) (s : l.Sublist r) : Rising l := List.Pairwise.sublist s h
theorem Rising.filter {l : List Stretch} (h : Rising l) (p : Stretch → Bool) : Rising (l.filter p) := h.sub List.filter_sublist
/-- of two members the one begins earlier and ends earlier, or they are one -/
theorem Rising.or : ∀ {l : List Stretch}, Rising l → ∀ {x y : Stretch}, x ∈ l → y ∈ l → x = y ∨ (x.1 < y.1 ∧ x.2 < y.2) ∨ (y.1 < x.1 ∧ y.2 < x.2)
  | [], _, _, _, hx, _ => by cases hx
  | a :: l, h, x, y, hx, hy => by
    have h1 := h.head
    rcases List.mem_cons.mp hx with rfl | hx'
    · rcases List.mem_cons.mp hy with rfl | hy'
      · exact .inl rfl
      · exact .inr (.inl (h1 y hy'))
    · rcases List.mem_cons.mp hy with rfl | hy'
      · exact .inr (.inr (h1 x hx'))
      · exact h.tail.or hx' hy'
theorem Rising.anti {l : List Stretch} (h : Rising l) {x y : Stretch} (hx : x ∈ l) (hy : y ∈ l) (k : In x y) : x = y := by
  rcases h.or hx hy with e | e | e
  · exact e
  · have := k.1; omega
  · have := k.2; omega
/-- two rising lists with the same members are one -/
theorem Rising.same : ∀ {l r : List Stretch}, Rising l → Rising r → (∀ x, x ∈ l ↔ x ∈ r) → l = r
  | [], [], _, _, _ => rfl
  | [], b :: r, _, _, h => by have := (h b).mpr (List.mem_cons_self ..); cases this
  | a :: l, [], _, _, h => by have := (h a).mp (List.mem_cons_self ..); cases this
  | a :: l, b :: r, hl, hr, h => by
    have e : a = b := by
      rcases List.mem_cons.mp ((h a).mp (List.mem_cons_self ..)) with e | m
      · exact e
      · rcases List.mem_cons.mp ((h b).mpr (List.mem_cons_self ..)) with e | m'
        · exact e.symm
        · have h1 := (hr.head a m).1
          have h2 := (hl.head b m').1
          omega
    subst e
    refine congrArg _ (hl.tail.same hr.tail fun x => ⟨fun m => ?_, fun m => ?_⟩)
    · rcases List.mem_cons.mp ((h x).mp (List.mem_cons_of_mem _ m)) with e | m'
      · have := (hl.head x m).1; rw [e] at this; omega
      · exact m'
    · rcases List.mem_cons.mp ((h x).mpr (List.mem_cons_of_mem _ m)) with e | m'
      · have := (hr.head x m).1; rw [e] at this; omega
      · exact m'
/-- what is least of S is one list -/
theorem Least.one {S : Stretch → Prop} {l r : List Stretch} (hl : Least S l) (hr : Least S r) : l = r := by
  have half : ∀ {l r : List Stretch}, Least S l → Least S r → ∀ x, x ∈ l → x ∈ r := fun {l r} hl hr x m => by
    obtain ⟨y, my, iy⟩ := hr.cov x (hl.mem x m)
    obtain ⟨z, mz, iz⟩ := hl.cov y (hr.mem y my)
    have e : z = x := hl.ris.anti mz m (iz.trans iy)
    subst e
    have e2 : y = z := iy.anti iz
    rw [← e2]
    exact my
  exact hl.ris.same hr.ris fun x => ⟨half hl hr x, half hr hl x⟩
theorem Least.change {S T : Stretch → Prop} {l : List Stretch} (h : Least S l) (a : ∀ x, S x → T x) (b : ∀ x, T x → ∃ y, S y ∧ In y x) : Least T l :=
  ⟨h.ris, fun x m => a x (h.mem x m), fun x t => by
    obtain ⟨y, sy, iy⟩ := b x t
    obtain ⟨z, mz, iz⟩ := h.cov y sy
    exact ⟨z, mz, iz.trans iy⟩⟩
theorem Least.nil {S : Stretch → Prop} (h : ∀ x, ¬ S x) : Least S [] := ⟨Rising.nil, fun _ m => (List.not_mem_nil m).elim, fun x s => (h x s).elim⟩
/-- put ahead one that begins no later than all; where it begins with one, it ends no earlier -/
theorem Least.push {S : Stretch → Prop} {l : List Stretch} {x : Stretch} (h : Least S l) (hx : ∀ y ∈ l, x.1 < y.1 ∨ (x.1 = y.1 ∧ y.2 ≤ x.2)) : Least (fun z => z = x ∨ S z) (push x l) := by
  cases l with
  | nil => exact ⟨List.pairwise_singleton _ _, fun z m => .inl (List.mem_singleton.mp m), fun z s => by
      rcases s with rfl | s
      · exact ⟨z, List.mem_singleton.mpr rfl, In.refl _⟩
      · obtain ⟨y, my, _⟩ := h.cov z s
        cases my⟩
  | cons y l =>
    show Least _ (if y.2 ≤ x.2 then y :: l else x :: y :: l)
    have hy := hx y (List.mem_cons_self ..)
    by_cases c : y.2 ≤ x.2
    · rw [if_pos c]
      refine ⟨h.ris, fun z m => .inr (h.mem z m), fun z s => ?_⟩
      rcases s with rfl | s
      · exact ⟨y, List.mem_cons_self .., by constructor <;> omega⟩
      · exact h.cov z s
    · rw [if_neg c]
      refine ⟨Rising.cons.mpr ⟨fun b hb => ?_, h.ris⟩, fun z m => ?_, fun z s => ?_⟩
      · rcases List.mem_cons.mp hb with rfl | hb
        · omega
        · have := h.ris.head b hb
          omega
      · rcases List.mem_cons.mp m with e | m
        · exact .inl e
        · exact .inr (h.mem z m)
      · rcases s with rfl | s
        · exact ⟨z, List.mem_cons_self .., In.refl _⟩
        · obtain ⟨w, mw, iw⟩ := h.cov z s
          exact ⟨w, List.mem_cons_of_mem _ mw, iw⟩
/-! ### either -/
theorem either_least : ∀ (l r : List Stretch), Rising l → Rising r → Least (fun z => z ∈ l ∨ z ∈ r) (Rh06.either l r) := by
  intro l r
  induction l, r using Rh06.either.induct with
  | case1 r =>
    intro hl hr
    rw [Rh06.either]
    exact ⟨hr, fun x m => .inr m, fun x s => ⟨x, s.elim (fun z => nomatch z) id, In.refl _⟩⟩
  | case2 l h0 =>
    intro hl hr
    have e : Rh06.either l [] = l := by cases l <;> rw [Rh06.either]; intro h; cases h
    rw [e]
    exact ⟨hl, fun x m => .inl m, fun x s => ⟨x, s.elim id (fun z => nomatch z), In.refl _⟩⟩
  | case3 a l b r c ih =>
    intro hl hr
    rw [Rh06.either, if_pos c]
    have q := ih hl.tail hr
    refine (q.push fun y m => ?_).change (fun x s => ?_) (fun x s => ⟨x, ?_, In.refl _⟩)
    · left
      rcases q.mem y m with m | m
      · exact (hl.head y m).1
      · rcases List.mem_cons.mp m with rfl | m
        · exact c
        · have := (hr.head y m).1; omega
    · rcases s with rfl | s | s
      · exact .inl (List.mem_cons_self ..)
      · exact .inl (List.mem_cons_of_mem _ s)
      · exact .inr s
    · rcases s with s | s
      · rcases List.mem_cons.mp s with rfl | s
        · exact .inl rfl
        · exact .inr (.inl s)
      · exact .inr (.inr s)
  | case4 a l b r c c2 ih =>
    intro hl hr
    rw [Rh06.either, if_neg c, if_pos c2]
    have q := ih hl hr.tail
    refine (q.push fun y m => ?_).change (fun x s => ?_) (fun x s => ⟨x, ?_, In.refl _⟩)
    · left
      rcases q.mem y m with m | m
      · rcases List.mem_cons.mp m with rfl | m
        · exact c2
        · have := (hl.head y m).1; omega
      · exact (hr.head y m).1
    · rcases s with rfl | s | s
      · exact .inr (List.mem_cons_self ..)
      · exact .inl s
      · exact .inr (List.mem_cons_of_mem _ s)
    · rcases s with s | s
      · exact .inr (.inl s)
      · rcases List.mem_cons.mp s with rfl | s
        · exact .inl rfl
        · exact .inr (.inr s)
  | case5 a l b r c c2 ih =>
    intro hl hr
    rw [Rh06.either, if_neg c, if_neg c2]
    have e : a.1 = b.1 := by omega
    have q := ih hl.tail hr.tail
    refine (q.push fun y m => ?_).change (fun x s => ?_) (fun x s => ?_)
    · left
      rcases q.mem y m with m | m
      · exact (hl.head y m).1
      · have := (hr.head y m).1
        show a.1 < y.1
        omega
    · rcases s with rfl | s | s
      · by_cases k : a.2 ≤ b.2
        · have : (a.1, min a.2 b.2) = a := ext2 rfl (Nat.min_eq_left k)
          rw [this]
          exact .inl (List.mem_cons_self ..)
        · have : (a.1, min a.2 b.2) = b := ext2 e (Nat.min_eq_right (by omega))
          rw [this]
          exact .inr (List.mem_cons_self ..)
      · exact .inl (List.mem_cons_of_mem _ s)
      · exact .inr (List.mem_cons_of_mem _ s)
    · rcases s with s | s
      · rcases List.mem_cons.mp s with rfl | s
        · exact ⟨_, .inl rfl, Nat.le_refl _, Nat.min_le_left ..⟩
        · exact ⟨x, .inr (.inl s), In.refl _⟩
      · rcases List.mem_cons.mp s with rfl | s
        · exact ⟨_, .inl rfl, Nat.le_of_eq e.symm, Nat.min_le_right ..⟩
        · exact ⟨x, .inr (.inr s), In.refl _⟩
/-! ### the rest of a list from where a test fails -/
theorem mem_drop {p : Stretch → Bool} : ∀ {l : List Stretch} {x : Stretch}, x ∈ l → p x = false → x ∈ l.dropWhile p
  | [], _, h, _ => h
  | a :: l, x, h, k => by
    rw [List.dropWhile_cons]
    by_cases c : p a = true
    · rw [if_pos c]
      rcases List.mem_cons.mp h with rfl | h
      · rw [k] at c; cases c
      · exact mem_drop h k
    · rw [if_neg c]
      exact h
theorem drop_sub {p : Stretch → Bool} (l : List Stretch) : (l.dropWhile p).Sublist l := List.dropWhile_sublist p
theorem drop_head {p : Stretch → Bool} : ∀ {l : List Stretch} {b : Stretch} {s : List Stretch}, l.dropWhile p = b :: s → p b = false
  | [], _, _, h => by cases h
  | a :: l, b, s, h => by
    rw [List.dropWhile_cons] at h
    by_cases c : p a = true
    · rw [if_pos c] at h
      exact drop_head h
    · rw [if_neg c] at h
      cases h
      simpa using c
theorem drop_nil {p : Stretch → Bool} {l : List Stretch} (h : l.dropWhile p = []) : ∀ x ∈ l, p x = true := fun x m => by
  by_cases c : p x = true
  · exact c
  · have := mem_drop m (by simpa using c)
    rw [h] at this
    cases this
/-! ### order -/
def SOrder (l r : List Stretch) (z : Stretch) : Prop := ∃ a b, a ∈ l ∧ b ∈ r ∧ a.2 < b.1 ∧ z = (a.1, b.2)
theorem order_least : ∀ (l r : List Stretch), Rising l → Rising r → Least (SOrder l r) (Rh06.order l r)
  | [], r, _, _ => by
    rw [Rh06.order]
    exact Least.nil fun x ⟨a, b, ha, _⟩ => by cases ha
  | a :: l, r, hl, hr => by
    rw [Rh06.order]
    cases e : r.dropWhile fun b => decide (b.1 ≤ a.2) with
    | nil =>
      refine Least.nil fun x ⟨a', b, ha, hb, k, _⟩ => ?_
      have h1 := drop_nil e b hb
      have h2 : b.1 ≤ a.2 := by simpa using h1
      rcases List.mem_cons.mp ha with rfl | ha
      · omega
      · have := (hl.head a' ha).2; omega
    | cons b s =>
      have hd := drop_head e
      have hb : a.2 < b.1 := by simpa using hd
      have sb : (b :: s).Sublist r := by rw [← e]; exact drop_sub r
      have hs : Rising (b :: s) := hr.sub sb
      have q := order_least l (b :: s) hl.tail hs
      show Least _ (push (a.1, b.2) (Rh06.order l (b :: s)))
      refine (q.push fun y m => ?_).change (fun x z => ?_) (fun x z => ?_)
      · left
        obtain ⟨a', b', ha, hb', k, rfl⟩ := q.mem y m
        exact (hl.head a' ha).1
      · rcases z with rfl | ⟨a', b', ha, hb', k, rfl⟩
        · exact ⟨a, b, List.mem_cons_self .., sb.subset (List.mem_cons_self ..), hb, rfl⟩
        · exact ⟨a', b', List.mem_cons_of_mem _ ha, sb.subset hb', k, rfl⟩
      · obtain ⟨a', b', ha, hb', k, rfl⟩ := z
        have k2 : a.2 < b'.1 := by
          rcases List.mem_cons.mp ha with rfl | ha
          · exact k
          · have := (hl.head a' ha).2; omega
        have m : b' ∈ b :: s := by
          rw [← e]
          exact mem_drop hb' (by simpa using k2)
        rcases List.mem_cons.mp ha with rfl | ha
        · refine ⟨_, .inl rfl, Nat.le_refl _, ?_⟩
          show b.2 ≤ b'.2
          rcases List.mem_cons.mp m with rfl | m
          · exact Nat.le_refl _
          · exact Nat.le_of_lt (hs.head b' m).2
        · exact ⟨_, .inr ⟨a', b', ha, m, k, rfl⟩, In.refl _⟩
/-! ### both -/
def SBoth (l r : List Stretch) (z : Stretch) : Prop := ∃ a b, a ∈ l ∧ b ∈ r ∧ z = (min a.1 b.1, max a.2 b.2)
theorem both_least : ∀ (l r : List Stretch), Rising l → Rising r → Least (SBoth l r) (Rh06.both l r) := by
  intro l r
  induction l, r using Rh06.both.induct with
  | case1 r =>
    intro hl hr
    rw [Rh06.both]
    exact Least.nil fun x ⟨a, b, ha, _⟩ => by cases ha
  | case2 l h0 =>
    intro hl hr
    have e : Rh06.both l [] = [] := by cases l <;> rw [Rh06.both]; intro h; cases h
    rw [e]
    exact Least.nil fun x ⟨a, b, _, hb, _⟩ => by cases hb
  | case3 a l b r ih1 ih2 ih3 =>
    intro hl hr
    rw [Rh06.both]
    -- the pairs of a or b with later ones are covered by the pair (a, b)
    have cov : ∀ a' b', a' ∈ a :: l → b' ∈ b :: r → (min a.1 b.1 = min a'.1 b'.1) → In (min a.1 b.1, max a.2 b.2) (min a'.1 b'.1, max a'.2 b'.2) := fun a' b' ha hb e => by
      have h1 : a.2 ≤ a'.2 := by
        rcases List.mem_cons.mp ha with rfl | ha
        · exact Nat.le_refl _
        · exact Nat.le_of_lt (hl.head a' ha).2
      have h2 : b.2 ≤ b'.2 := by
        rcases List.mem_cons.mp hb with rfl | hb
        · exact Nat.le_refl _
        · exact Nat.le_of_lt (hr.head b' hb).2
      constructor
      · show min a'.1 b'.1 ≤ min a.1 b.1
        omega
      · show max a.2 b.2 ≤ max a'.2 b'.2
        omega
    by_cases c : a.1 < b.1
    · rw [if_pos c]
      have q := ih1 hl.tail hr
      refine (q.push fun y m => ?_).change (fun x z => ?_) (fun x z => ?_)
      · left
        obtain ⟨a', b', ha, hb, rfl⟩ := q.mem y m
        have h1 := (hl.head a' ha).1
        have h2 : b.1 ≤ b'.1 := by
          rcases List.mem_cons.mp hb with rfl | hb
          · exact Nat.le_refl _
          · exact Nat.le_of_lt (hr.head b' hb).1
        show min a.1 b.1 < min a'.1 b'.1
        omega
      · rcases z with rfl | ⟨a', b', ha, hb, rfl⟩
        · exact ⟨a, b, List.mem_cons_self .., List.mem_cons_self .., rfl⟩
        · exact ⟨a', b', List.mem_cons_of_mem _ ha, hb, rfl⟩
      · obtain ⟨a', b', ha, hb, rfl⟩ := z
        rcases List.mem_cons.mp ha with rfl | ha'
        · refine ⟨_, .inl rfl, cov a' b' ha hb ?_⟩
          have h2 : b.1 ≤ b'.1 := by
            rcases List.mem_cons.mp hb with rfl | hb
            · exact Nat.le_refl _
            · exact Nat.le_of_lt (hr.head b' hb).1
          omega
        · exact ⟨_, .inr ⟨a', b', ha', hb, rfl⟩, In.refl _⟩
    · rw [if_neg c]
      by_cases c2 : b.1 < a.1
      · rw [if_pos c2]
        have q := ih2 hl hr.tail
        refine (q.push fun y m => ?_).change (fun x z => ?_) (fun x z => ?_)
        · left
          obtain ⟨a', b', ha, hb, rfl⟩ := q.mem y m
          have h1 := (hr.head b' hb).1
          have h2 : a.1 ≤ a'.1 := by
            rcases List.mem_cons.mp ha with rfl | ha
            · exact Nat.le_refl _
            · exact Nat.le_of_lt (hl.head a' ha).1
          show min a.1 b.1 < min a'.1 b'.1
          omega
        · rcases z with rfl | ⟨a', b', ha, hb, rfl⟩
          · exact ⟨a, b, List.mem_cons_self .., List.mem_cons_self .., rfl⟩
          · exact ⟨a', b', ha, List.mem_cons_of_mem _ hb, rfl⟩
        · obtain ⟨a', b', ha, hb, rfl⟩ := z
          rcases List.mem_cons.mp hb with rfl | hb'
          · refine ⟨_, .inl rfl, cov a' b' ha hb ?_⟩
            have h2 : a.1 ≤ a'.1 := by
              rcases List.mem_cons.mp ha with rfl | ha
              · exact Nat.le_refl _
              · exact Nat.le_of_lt (hl.head a' ha).1
            omega
          · exact ⟨_, .inr ⟨a', b', ha, hb', rfl⟩, In.refl _⟩
      · rw [if_neg c2]
        have e : a.1 = b.1 := by omega
        have q := ih3 hl.tail hr.tail
        refine (q.push fun y m => ?_).change (fun x z => ?_) (fun x z => ?_)
        · left
          obtain ⟨a', b', ha, hb, rfl⟩ := q.mem y m
          have h1 := (hr.head b' hb).1
          have h2 := (hl.head a' ha).1
          show min a.1 b.1 < min a'.1 b'.1
          omega
        · rcases z with rfl | ⟨a', b', ha, hb, rfl⟩
          · exact ⟨a, b, List.mem_cons_self .., List.mem_cons_self .., rfl⟩
          · exact ⟨a', b', List.mem_cons_of_mem _ ha, List.mem_cons_of_mem _ hb, rfl⟩
        · obtain ⟨a', b', ha, hb, rfl⟩ := z
          rcases List.mem_cons.mp ha with rfl | ha'
          · refine ⟨_, .inl rfl, cov a' b' ha hb ?_⟩
            have h2 : b.1 ≤ b'.1 := by
              rcases List.mem_cons.mp hb with rfl | hb
              · exact Nat.le_refl _
              · exact Nat.le_of_lt (hr.head b' hb).1
            omega
          · rcases List.mem_cons.mp hb with rfl | hb'
            · refine ⟨_, .inl rfl, cov a' b' ha hb ?_⟩
              have h2 := (hl.head a' ha').1
              omega
            · exact ⟨_, .inr ⟨a', b', ha', hb', rfl⟩, In.refl _⟩
end Ns

set_option Elab.async false
set_option linter.unusedVariables false
namespace Ns
open Rh06 (Stretch isIn wide push)
/-! ### next -/
def SNext (l r : List Stretch) (z : Stretch) : Prop := ∃ a b, a ∈ l ∧ b ∈ r ∧ b.1 = a.2 + 1 ∧ z = (a.1, b.2)
theorem next_mem : ∀ (l r : List Stretch), Rising l → Rising r → ∀ z, z ∈ Rh06.next l r ↔ SNext l r z
  | [], r, _, _, z => by
    rw [Rh06.next]
    exact ⟨fun m => (nomatch m), fun ⟨a, b, ha, _⟩ => (nomatch ha)⟩
  | a :: l, r, hl, hr, z => by
    rw [Rh06.next]
    cases e : r.dropWhile fun b => decide (b.1 ≤ a.2) with
    | nil =>
      refine ⟨fun m => (nomatch m), fun ⟨a', b, ha, hb, k, _⟩ => ?_⟩
      have h1 := drop_nil e b hb
      have h2 : b.1 ≤ a.2 := by simpa using h1
      rcases List.mem_cons.mp ha with rfl | ha
      · omega
      · have := (hl.head a' ha).2; omega
    | cons b s =>
      have hd := drop_head e
      have hb : a.2 < b.1 := by simpa using hd
      have sb : (b :: s).Sublist r := by rw [← e]; exact drop_sub r
      have hs : Rising (b :: s) := hr.sub sb
      have q := next_mem l (b :: s) hl.tail hs z
      have inb : ∀ a' b', a' ∈ a :: l → b' ∈ r → b'.1 = a'.2 + 1 → b' ∈ b :: s := fun a' b' ha hb' k => by
        rw [← e]
        refine mem_drop hb' ?_
        have : a.2 ≤ a'.2 := by
          rcases List.mem_cons.mp ha with rfl | ha
          · exact Nat.le_refl _
          · exact Nat.le_of_lt (hl.head a' ha).2
        simp only [decide_eq_false_iff_not]
        omega
      show z ∈ (if b.1 = a.2 + 1 then (a.1, b.2) :: Rh06.next l (b :: s) else Rh06.next l (b :: s)) ↔ _
      by_cases c : b.1 = a.2 + 1
      · rw [if_pos c, List.mem_cons, q]
        constructor
        · rintro (rfl | ⟨a', b', ha, hb', k, rfl⟩)
          · exact ⟨a, b, List.mem_cons_self .., sb.subset (List.mem_cons_self ..), c, rfl⟩
          · exact ⟨a', b', List.mem_cons_of_mem _ ha, sb.subset hb', k, rfl⟩
        · rintro ⟨a', b', ha, hb', k, rfl⟩
          have m := inb a' b' ha hb' k
          rcases List.mem_cons.mp ha with rfl | ha'
          · left
            rcases List.mem_cons.mp m with rfl | m'
            · rfl
            · have := (hs.head b' m').1; omega
          · exact .inr ⟨a', b', ha', m, k, rfl⟩
      · rw [if_neg c, q]
        constructor
        · rintro ⟨a', b', ha, hb', k, rfl⟩
          exact ⟨a', b', List.mem_cons_of_mem _ ha, sb.subset hb', k, rfl⟩
        · rintro ⟨a', b', ha, hb', k, rfl⟩
          have m := inb a' b' ha hb' k
          rcases List.mem_cons.mp ha with rfl | ha'
          · exfalso
            rcases List.mem_cons.mp m with rfl | m'
            · exact c k
            · have := (hs.head b' m').1; omega
          · exact ⟨a', b', ha', m, k, rfl⟩
theorem next_rising : ∀ (l r : List Stretch), Rising l → Rising r → Rising (Rh06.next l r)
  | [], r, _, _ => by
    rw [Rh06.next]
    exact Rising.nil
  | a :: l, r, hl, hr => by
    rw [Rh06.next]
    cases e : r.dropWhile fun b => decide (b.1 ≤ a.2) with
    | nil => exact Rising.nil
    | cons b s =>
      have sb : (b :: s).Sublist r := by rw [← e]; exact drop_sub r
      have hs : Rising (b :: s) := hr.sub sb
      have q := next_rising l (b :: s) hl.tail hs
      show Rising (if b.1 = a.2 + 1 then (a.1, b.2) :: Rh06.next l (b :: s) else Rh06.next l (b :: s))
      by_cases c : b.1 = a.2 + 1
      · rw [if_pos c]
        refine Rising.cons.mpr ⟨fun y m => ?_, q⟩
        obtain ⟨a', b', ha, hb', k, rfl⟩ := (next_mem l (b :: s) hl.tail hs y).mp m
        have h1 := hl.head a' ha
        rcases List.mem_cons.mp hb' with rfl | m'
        · omega
        · exact ⟨h1.1, (hs.head b' m').2⟩
      · rw [if_neg c]
        exact q
/-! ### inside, around, meets: a search over all -/
theorem any_drop {p q : Stretch → Bool} {r : List Stretch} {b : Stretch} {s : List Stretch} (e : r.dropWhile p = b :: s) (h0 : ∀ x ∈ r, p x = true → q x = false) (h1 : ∀ x ∈ s, q x = true → q b = true) : r.any q = q b := by
  rw [Bool.eq_iff_iff, List.any_eq_true]
  constructor
  · rintro ⟨x, m, k⟩
    have m2 : x ∈ r.dropWhile p := mem_drop m (by
      by_cases c : p x = true
      · rw [h0 x m c] at k; cases k
      · simpa using c)
    rw [e] at m2
    rcases List.mem_cons.mp m2 with rfl | m3
    · exact k
    · exact h1 x m3 k
  · intro k
    refine ⟨b, (drop_sub (p := p) r).subset ?_, k⟩
    rw [e]
    exact List.mem_cons_self ..
theorem any_none {p q : Stretch → Bool} {r : List Stretch} (e : r.dropWhile p = []) (h0 : ∀ x ∈ r, p x = true → q x = false) : r.any q = false := by
  rw [List.any_eq_false]
  intro x m
  rw [h0 x m (drop_nil e x m)]
  exact Bool.false_ne_true
theorem inside_any {r : List Stretch} (hr : Rising r) (a : Stretch) : Rh06.isInside r a = r.any fun b => isIn a b := by
  unfold Rh06.isInside
  have h0 : ∀ x ∈ r, decide (x.2 < a.2) = true → isIn a x = false := fun x _ k => by
    have k' : x.2 < a.2 := by simpa using k
    unfold isIn
    simp only [Bool.and_eq_false_iff, decide_eq_false_iff_not]
    omega
  cases e : r.dropWhile fun b => decide (b.2 < a.2) with
  | nil => exact (any_none e h0).symm
  | cons b s =>
    have hd : decide (b.2 < a.2) = false := drop_head e
    have hs : Rising (b :: s) := hr.sub (by rw [← e]; exact drop_sub r)
    rw [any_drop e h0 fun x m k => ?_]
    · have : decide (a.2 ≤ b.2) = true := by simp at hd ⊢; omega
      show decide (b.1 ≤ a.1) = (decide (b.1 ≤ a.1) && decide (a.2 ≤ b.2))
      rw [this, Bool.and_true]
    · have h1 := hs.head x m
      rw [isIn_iff] at k ⊢
      simp at hd
      have := k.1
      have := k.2
      constructor <;> omega
theorem around_any {r : List Stretch} (hr : Rising r) (a : Stretch) : Rh06.isAround r a = r.any fun b => isIn b a := by
  unfold Rh06.isAround
  have h0 : ∀ x ∈ r, decide (x.1 < a.1) = true → isIn x a = false := fun x _ k => by
    have k' : x.1 < a.1 := by simpa using k
    unfold isIn
    simp only [Bool.and_eq_false_iff, decide_eq_false_iff_not]
    omega
  cases e : r.dropWhile fun b => decide (b.1 < a.1) with
  | nil => exact (any_none e h0).symm
  | cons b s =>
    have hd : decide (b.1 < a.1) = false := drop_head e
    have hs : Rising (b :: s) := hr.sub (by rw [← e]; exact drop_sub r)
    rw [any_drop e h0 fun x m k => ?_]
    · have : decide (a.1 ≤ b.1) = true := by simp at hd ⊢; omega
      show decide (b.2 ≤ a.2) = (decide (a.1 ≤ b.1) && decide (b.2 ≤ a.2))
      rw [this, Bool.true_and]
    · have h1 := hs.head x m
      rw [isIn_iff] at k ⊢
      simp at hd
      have := k.1
      have := k.2
      constructor <;> omega
/-- the two have a place in common -/
def shares (x y : Stretch) : Bool := decide (x.1 ≤ y.2) && decide (y.1 ≤ x.2)
theorem meets_any {r : List Stretch} (hr : Rising r) (a : Stretch) : Rh06.meets r a = r.any fun b => shares a b := by
  unfold Rh06.meets
  have h0 : ∀ x ∈ r, decide (x.2 < a.1) = true → shares a x = false := fun x _ k => by
    have k' : x.2 < a.1 := by simpa using k
    unfold shares
    simp only [Bool.and_eq_false_iff, decide_eq_false_iff_not]
    omega
  cases e : r.dropWhile fun b => decide (b.2 < a.1) with
  | nil => exact (any_none e h0).symm
  | cons b s =>
    have hd : decide (b.2 < a.1) = false := drop_head e
    have hs : Rising (b :: s) := hr.sub (by rw [← e]; exact drop_sub r)
    rw [any_drop e h0 fun x m k => ?_]
    · have : decide (a.1 ≤ b.2) = true := by simp at hd ⊢; omega
      show decide (b.1 ≤ a.2) = (decide (a.1 ≤ b.2) && decide (b.1 ≤ a.2))
      rw [this, Bool.true_and]
    · have h1 := hs.head x m
      unfold shares at k ⊢
      simp at hd k ⊢
      omega
/-! ### every question's row is of least stretches within the text -/
/-- within the places 1 to n -/
def Inn (n : Nat) (l : List Stretch) : Prop := ∀ a ∈ l, 1 ≤ a.1 ∧ a.1 ≤ a.2 ∧ a.2 ≤ n
theorem places_ok (w : Nat) : ∀ (t : List Nat) (p : Nat), Rising (Rh06.places w p t) ∧ ∀ a ∈ Rh06.places w p t, p ≤ a.1 ∧ a.1 = a.2 ∧ a.2 < p + t.length
  | [], p => ⟨Rising.nil, fun _ m => nomatch m⟩
  | x :: t, p => by
    obtain ⟨h1, h2⟩ := places_ok w t (p + 1)
    have h3 : ∀ a ∈ Rh06.places w (p + 1) t, p ≤ a.1 ∧ a.1 = a.2 ∧ a.2 < p + (x :: t).length := fun a m => by
      have := h2 a m
      rw [List.length_cons]
      omega
    rw [Rh06.places]
    by_cases c : x = w
    · rw [if_pos c]
      refine ⟨Rising.cons.mpr ⟨fun b m => ?_, h1⟩, fun a m => ?_⟩
      · have := h2 b m
        show p < b.1 ∧ p < b.2
        omega
      · rcases List.mem_cons.mp m with rfl | m
        · show p ≤ p ∧ p = p ∧ p < p + (x :: t).length
          rw [List.length_cons]
          omega
        · exact h3 a m
    · rw [if_neg c]
      exact ⟨h1, h3⟩
theorem row_ok (t : List Nat) : ∀ q : Rh06.Q, Rising (Rh06.row t q) ∧ Inn t.length (Rh06.row t q)
  | .word w => ⟨(places_ok w t 1).1, fun a m => by have := (places_ok w t 1).2 a m; omega⟩
  | .either i j => by
    have hi := row_ok t i
    have hj := row_ok t j
    have q := either_least _ _ hi.1 hj.1
    exact ⟨q.ris, fun a m => (q.mem a m).elim (hi.2 a) (hj.2 a)⟩
  | .order i j => by
    have hi := row_ok t i
    have hj := row_ok t j
    have q := order_least _ _ hi.1 hj.1
    refine ⟨q.ris, fun z m => ?_⟩
    obtain ⟨a, b, ha, hb, k, rfl⟩ := q.mem z m
    have h1 := hi.2 a ha
    have h2 := hj.2 b hb
    show 1 ≤ a.1 ∧ a.1 ≤ b.2 ∧ b.2 ≤ t.length
    omega
  | .both i j => by
    have hi := row_ok t i
    have hj := row_ok t j
    have q := both_least _ _ hi.1 hj.1
    refine ⟨q.ris, fun z m => ?_⟩
    obtain ⟨a, b, ha, hb, rfl⟩ := q.mem z m
    have h1 := hi.2 a ha
    have h2 := hj.2 b hb
    show 1 ≤ min a.1 b.1 ∧ min a.1 b.1 ≤ max a.2 b.2 ∧ max a.2 b.2 ≤ t.length
    omega
  | .next i j => by
    have hi := row_ok t i
    have hj := row_ok t j
    refine ⟨next_rising _ _ hi.1 hj.1, fun z m => ?_⟩
    obtain ⟨a, b, ha, hb, k, rfl⟩ := (next_mem _ _ hi.1 hj.1 z).mp m
    have h1 := hi.2 a ha
    have h2 := hj.2 b hb
    show 1 ≤ a.1 ∧ a.1 ≤ b.2 ∧ b.2 ≤ t.length
    omega
  | .inside i j => ⟨(row_ok t i).1.filter _, fun a m => (row_ok t i).2 a (List.mem_filter.mp m).1⟩
  | .around i j => ⟨(row_ok t i).1.filter _, fun a m => (row_ok t i).2 a (List.mem_filter.mp m).1⟩
  | .apart i j => ⟨(row_ok t i).1.filter _, fun a m => (row_ok t i).2 a (List.mem_filter.mp m).1⟩
  | .without i j => ⟨(row_ok t i).1.filter _, fun a m => (row_ok t i).2 a (List.mem_filter.mp m).1⟩
  | .outside i j => ⟨(row_ok t i).1.filter _, fun a m => (row_ok t i).2 a (List.mem_filter.mp m).1⟩
  | .within i n => ⟨(row_ok t i).1.filter _, fun a m => (row_ok t i).2 a (List.mem_filter.mp m).1⟩
  | .first i n => ⟨(row_ok t i).1.filter _, fun a m => (row_ok t i).2 a (List.mem_filter.mp m).1⟩
/-- no more stretches than places -/
theorem len_le : ∀ {l : List Stretch} {k n : Nat}, Rising l → (∀ a ∈ l, k < a.1 ∧ a.1 ≤ n) → l.length ≤ n - k
  | [], _, _, _, _ => Nat.zero_le _
  | a :: l, k, n, h, b => by
    have h1 := b a (List.mem_cons_self ..)
    have ih := len_le (k := a.1) (n := n) h.tail fun x m => ⟨(h.head x m).1, (b x (List.mem_cons_of_mem _ m)).2⟩
    rw [List.length_cons]
    omega
theorem row_len (t : List Nat) (q : Rh06.Q) : (Rh06.row t q).length ≤ t.length := by
  have h := row_ok t q
  have := len_le (k := 0) (n := t.length) h.1 fun a m => by have := h.2 a m; omega
  omega
/-! ### the program's own ways -/
/-- from the last begin on, each put ahead unless the first ends no later -/
def leastR (ys : List Stretch) : List Stretch := ys.foldl (fun l s => push s l) []
/-- later begins first; of one begin the earlier end first -/
def Back (p q : Stretch) : Prop := q.1 < p.1 ∨ (p.1 = q.1 ∧ p.2 ≤ q.2)
theorem leastR_go : ∀ (ys pre l : List Stretch), Least (· ∈ pre) l → (∀ p ∈ pre, ∀ q ∈ ys, Back p q) → ys.Pairwise Back → Least (fun z => z ∈ pre ∨ z ∈ ys) (ys.foldl (fun l s => push s l) l)
  | [], pre, l, h, _, _ => h.change (fun x s => .inl s) fun x s => ⟨x, s.elim id (fun z => nomatch z), In.refl _⟩
  | y :: ys, pre, l, h, hb, hp => by
    rw [List.foldl_cons]
    have hp' := List.pairwise_cons.mp hp
    have h1 : Least (· ∈ y :: pre) (push y l) := (h.push fun z m => by
      have k := hb z (h.mem z m) y (List.mem_cons_self ..)
      unfold Back at k
      omega).change (fun x s => List.mem_cons.mpr s) fun x s => ⟨x, List.mem_cons.mp s, In.refl _⟩
    refine (leastR_go ys (y :: pre) (push y l) h1 (fun p m q mq => ?_) hp'.2).change (fun x s => ?_) fun x s => ⟨x, ?_, In.refl _⟩
    · rcases List.mem_cons.mp m with rfl | m
      · exact hp'.1 q mq
      · exact hb p m q (List.mem_cons_of_mem _ mq)
    · rcases s with s | s
      · rcases List.mem_cons.mp s with rfl | s
        · exact .inr (List.mem_cons_self ..)
        · exact .inl s
      · exact .inr (List.mem_cons_of_mem _ s)
    · rcases s with s | s
      · exact .inl (List.mem_cons_of_mem _ s)
      · rcases List.mem_cons.mp s with rfl | s
        · exact .inl (List.mem_cons_self ..)
        · exact .inr s
theorem leastR_least {xs ys : List Stretch} (hp : ys.Perm xs) (hb : ys.Pairwise Back) : Least (· ∈ xs) (leastR ys) :=
  (leastR_go ys [] [] (Least.nil fun _ m => nomatch m) (fun _ m => nomatch m) hb).change (fun x s => hp.mem_iff.mp (s.elim (fun z => nomatch z) id)) fun x s => ⟨x, .inr (hp.mem_iff.mpr s), In.refl _⟩
theorem push_len (x : Stretch) : ∀ l : List Stretch, (push x l).length ≤ l.length + 1
  | [] => Nat.le_refl _
  | y :: l => by
    show (if y.2 ≤ x.2 then y :: l else x :: y :: l).length ≤ (y :: l).length + 1
    split
    · exact Nat.le_succ _
    · exact Nat.le_refl _
theorem leastR_len (ys : List Stretch) : (leastR ys).length ≤ ys.length := by
  have : ∀ (ys l : List Stretch), (ys.foldl (fun l s => push s l) l).length ≤ l.length + ys.length := fun ys => by
    induction ys with
    | nil => intro l; exact Nat.le_refl _
    | cons y ys ih =>
      intro l
      rw [List.foldl_cons, List.length_cons]
      have h1 := ih (push y l)
      have h2 := push_len y l
      omega
  have h := this ys []
  rw [List.length_nil] at h
  unfold leastR
  omega
/-- either: the least of both lists together -/
theorem either_of {l r ys : List Stretch} (hl : Rising l) (hr : Rising r) (hp : ys.Perm (l ++ r)) (hb : ys.Pairwise Back) : leastR ys = Rh06.either l r :=
  ((leastR_least hp hb).change (fun _ s => List.mem_append.mp s) fun x s => ⟨x, List.mem_append.mpr s, In.refl _⟩).one (either_least l r hl hr)
/-! #### order -/
def firstFrom (r : List Stretch) (p : Nat) : Option Stretch := r.find? fun b => decide (p ≤ b.1)
theorem firstFrom_some {r : List Stretch} (hr : Rising r) {p : Nat} {b : Stretch} (e : firstFrom r p = some b) : b ∈ r ∧ p ≤ b.1 ∧ ∀ x ∈ r, p ≤ x.1 → b.1 ≤ x.1 ∧ b.2 ≤ x.2 := by
  unfold firstFrom at e
  obtain ⟨hb, as, bs, e2, hn⟩ := List.find?_eq_some_iff_append.mp e
  have hb' : p ≤ b.1 := by simpa using hb
  have hm : b ∈ r := by rw [e2]; simp
  refine ⟨hm, hb', fun x m k => ?_⟩
  rw [e2] at m hr
  rcases List.mem_append.mp m with m | m
  · have := hn x m
    simp at this
    omega
  · have hs : Rising (b :: bs) := hr.sub (List.sublist_append_right _ _)
    rcases List.mem_cons.mp m with rfl | m
    · omega
    · have := hs.head x m
      omega
theorem firstFrom_none {r : List Stretch} {p : Nat} (e : firstFrom r p = none) : ∀ x ∈ r, x.1 < p := fun x m => by
  have := List.find?_eq_none.mp e x m
  simp at this
  omega
def orderFound (l r : List Stretch) : List Stretch := l.filterMap fun a => (firstFrom r (a.2 + 1)).map fun b => (a.1, b.2)
theorem order_of {l r ys : List Stretch} (hl : Rising l) (hr : Rising r) (hp : ys.Perm (orderFound l r)) (hb : ys.Pairwise Back) : leastR ys = Rh06.order l r := by
  refine ((leastR_least hp hb).change (fun z s => ?_) fun z s => ?_).one (order_least l r hl hr)
  · obtain ⟨a, ha, e⟩ := List.mem_filterMap.mp s
    cases e2 : firstFrom r (a.2 + 1) with
    | none => rw [e2] at e; cases e
    | some b =>
      rw [e2] at e
      cases e
      obtain ⟨h1, h2, _⟩ := firstFrom_some hr e2
      exact ⟨a, b, ha, h1, h2, rfl⟩
  · obtain ⟨a, b, ha, hb', k, rfl⟩ := s
    cases e2 : firstFrom r (a.2 + 1) with
    | none => have := firstFrom_none e2 b hb'; omega
    | some b0 =>
      obtain ⟨h1, h2, h3⟩ := firstFrom_some hr e2
      refine ⟨(a.1, b0.2), List.mem_filterMap.mpr ⟨a, ha, by rw [e2]; rfl⟩, Nat.le_refl _, (h3 b hb' k).2⟩
/-! #### both -/
def lastBy (l : List Stretch) (p : Nat) : Option Stretch := l.reverse.find? fun b => decide (b.2 ≤ p)
theorem lastBy_some {l : List Stretch} (hl : Rising l) {p : Nat} {a : Stretch} (e : lastBy l p = some a) : a ∈ l ∧ a.2 ≤ p ∧ ∀ x ∈ l, x.2 ≤ p → x.1 ≤ a.1 := by
  unfold lastBy at e
  obtain ⟨hb, as, bs, e2, hn⟩ := List.find?_eq_some_iff_append.mp e
  have hb' : a.2 ≤ p := by simpa using hb
  have e3 : l = bs.reverse ++ a :: as.reverse := by
    have := congrArg List.reverse e2
    rw [List.reverse_reverse] at this
    rw [this]
    simp
  have hm : a ∈ l := by rw [e3]; simp
  refine ⟨hm, hb', fun x m k => ?_⟩
  rcases hl.or hm m with rfl | h | h
  · exact Nat.le_refl _
  · exfalso
    rw [e3] at m hl
    rcases List.mem_append.mp m with m | m
    · have := (List.pairwise_append.mp hl).2.2 x m a (List.mem_cons_self ..)
      omega
    · rcases List.mem_cons.mp m with rfl | m
      · omega
      · have := hn x (List.mem_reverse.mp m)
        simp at this
        omega
  · omega
theorem lastBy_none {l : List Stretch} {p : Nat} (e : lastBy l p = none) : ∀ x ∈ l, p < x.2 := fun x m => by
  have := List.find?_eq_none.mp e x (List.mem_reverse.mpr m)
  simp at this
  omega
def bothAt (l r : List Stretch) (p : Nat) : Option Stretch := match lastBy l p, lastBy r p with
  | some a, some b => some (min a.1 b.1, max a.2 b.2)
  | _, _ => none
def bothFound (l r : List Stretch) : List Stretch := (l ++ r).filterMap fun s => bothAt l r s.2
theorem bothAt_cov {l r : List Stretch} (hl : Rising l) (hr : Rising r) {a b : Stretch} (ha : a ∈ l) (hb : b ∈ r) {p : Nat} (h1 : a.2 ≤ p) (h2 : b.2 ≤ p) : ∃ z, bothAt l r p = some z ∧ min a.1 b.1 ≤ z.1 ∧ z.2 ≤ p := by
  unfold bothAt
  cases e1 : lastBy l p with
  | none => have := lastBy_none e1 a ha; omega
  | some a' =>
    cases e2 : lastBy r p with
    | none => have := lastBy_none e2 b hb; omega
    | some b' =>
      obtain ⟨_, k1, k2⟩ := lastBy_some hl e1
      obtain ⟨_, k3, k4⟩ := lastBy_some hr e2
      have := k2 a ha h1
      have := k4 b hb h2
      refine ⟨_, rfl, ?_, ?_⟩
      · show min a.1 b.1 ≤ min a'.1 b'.1
        omega
      · show max a'.2 b'.2 ≤ p
        omega
theorem both_of {l r ys : List Stretch} (hl : Rising l) (hr : Rising r) (hp : ys.Perm (bothFound l r)) (hb : ys.Pairwise Back) : leastR ys = Rh06.both l r := by
  refine ((leastR_least hp hb).change (fun z s => ?_) fun z s => ?_).one (both_least l r hl hr)
  · obtain ⟨s, _, e⟩ := List.mem_filterMap.mp s
    unfold bothAt at e
    cases e1 : lastBy l s.2 with
    | none => rw [e1] at e; cases e
    | some a =>
      cases e2 : lastBy r s.2 with
      | none => rw [e1, e2] at e; cases e
      | some b =>
        rw [e1, e2] at e
        cases e
        exact ⟨a, b, (lastBy_some hl e1).1, (lastBy_some hr e2).1, rfl⟩
  · obtain ⟨a, b, ha, hb', rfl⟩ := s
    by_cases c : a.2 ≤ b.2
    · obtain ⟨z, e, h1, h2⟩ := bothAt_cov hl hr ha hb' c (Nat.le_refl _)
      refine ⟨z, List.mem_filterMap.mpr ⟨b, List.mem_append.mpr (.inr hb'), e⟩, h1, ?_⟩
      show z.2 ≤ max a.2 b.2
      omega
    · obtain ⟨z, e, h1, h2⟩ := bothAt_cov hl hr ha hb' (Nat.le_refl _) (by omega)
      refine ⟨z, List.mem_filterMap.mpr ⟨a, List.mem_append.mpr (.inl ha), e⟩, h1, ?_⟩
      show z.2 ≤ max a.2 b.2
      omega
/-! #### next -/
def nextAt (r : List Stretch) (a : Stretch) : Option Stretch := match firstFrom r (a.2 + 1) with
  | some b => if b.1 = a.2 + 1 then some (a.1, b.2) else none
  | none => none
theorem next_of : ∀ {l r : List Stretch}, Rising l → Rising r → l.filterMap (nextAt r) = Rh06.next l r := fun {l r} hl hr => by
  have mem : ∀ a, a ∈ l → ∀ z, nextAt r a = some z ↔ ∃ b, b ∈ r ∧ b.1 = a.2 + 1 ∧ z = (a.1, b.2) := fun a _ z => by
    unfold nextAt
    cases e : firstFrom r (a.2 + 1) with
    | none =>
      refine ⟨fun h => (nomatch h), fun ⟨b, hb, k, _⟩ => ?_⟩
      have := firstFrom_none e b hb
      omega
    | some b =>
      obtain ⟨h1, h2, h3⟩ := firstFrom_some hr e
      by_cases c : b.1 = a.2 + 1
      · show (if b.1 = a.2 + 1 then some (a.1, b.2) else none) = some z ↔ _
        rw [if_pos c]
        constructor
        · rintro ⟨⟩
          exact ⟨b, h1, c, rfl⟩
        · rintro ⟨b', hb', k, rfl⟩
          rcases hr.or h1 hb' with rfl | q | q
          · rfl
          · omega
          · omega
      · show (if b.1 = a.2 + 1 then some (a.1, b.2) else none) = some z ↔ _
        rw [if_neg c]
        refine ⟨fun h => (nomatch h), fun ⟨b', hb', k, _⟩ => ?_⟩
        have := (h3 b' hb' (by omega)).1
        omega
  refine Rising.same ?_ (next_rising l r hl hr) fun z => ?_
  · unfold Rising
    rw [List.pairwise_filterMap]
    refine List.Pairwise.imp_of_mem (fun {a a'} ha ha' h b hb b' hb' => ?_) hl
    obtain ⟨c, hc, k, rfl⟩ := (mem a ha b).mp hb
    obtain ⟨c', hc', k', rfl⟩ := (mem a' ha' b').mp hb'
    refine ⟨h.1, ?_⟩
    show c.2 < c'.2
    rcases hr.or hc hc' with rfl | q | q
    · omega
    · exact q.2
    · omega
  · rw [next_mem l r hl hr z, List.mem_filterMap]
    constructor
    · rintro ⟨a, ha, e⟩
      obtain ⟨b, hb, k, rfl⟩ := (mem a ha z).mp e
      exact ⟨a, b, ha, hb, k, rfl⟩
    · rintro ⟨a, b, ha, hb, k, rfl⟩
      exact ⟨a, ha, (mem a ha _).mpr ⟨b, hb, k, rfl⟩⟩
end Ns

set_option Elab.async false
set_option linter.unusedVariables false
namespace Ns
open Rh06 (Stretch isIn wide push)
/-! ### rows of places: rising, each once -/
def Up (l : List Nat) : Prop := l.Pairwise (· < ·)
theorem Up.same : ∀ {l r : List Nat}, Up l → Up r → (∀ x, x ∈ l ↔ x ∈ r) → l = r
  | [], [], _, _, _ => rfl
  | [], b :: r, _, _, h => (nomatch (h b).mpr (List.mem_cons_self ..))
  | a :: l, [], _, _, h => (nomatch (h a).mp (List.mem_cons_self ..))
  | a :: l, b :: r, hl, hr, h => by
    have hl' := List.pairwise_cons.mp hl
    have hr' := List.pairwise_cons.mp hr
    have e : a = b := by
      rcases List.mem_cons.mp ((h a).mp (List.mem_cons_self ..)) with e | m
      · exact e
      · rcases List.mem_cons.mp ((h b).mpr (List.mem_cons_self ..)) with e | m'
        · exact e.symm
        · have h1 := hr'.1 a m
          have h2 := hl'.1 b m'
          omega
    subst e
    refine congrArg _ (Up.same hl'.2 hr'.2 fun x => ⟨fun m => ?_, fun m => ?_⟩)
    · rcases List.mem_cons.mp ((h x).mp (List.mem_cons_of_mem _ m)) with e | m'
      · have := hl'.1 x m; omega
      · exact m'
    · rcases List.mem_cons.mp ((h x).mpr (List.mem_cons_of_mem _ m)) with e | m'
      · have := hr'.1 x m; omega
      · exact m'
theorem merge_mem : ∀ (l r : List Nat) (x : Nat), x ∈ Rh06.merge l r ↔ x ∈ l ∨ x ∈ r := by
  intro l r
  induction l, r using Rh06.merge.induct with
  | case1 r => intro x; rw [Rh06.merge]; simp
  | case2 l h0 =>
    intro x
    have e : Rh06.merge l [] = l := by cases l <;> rw [Rh06.merge]; intro h; cases h
    rw [e]; simp
  | case3 a l b r c ih => intro x; rw [Rh06.merge, if_pos c]; simp [ih]; grind
  | case4 a l b r c c2 ih => intro x; rw [Rh06.merge, if_neg c, if_pos c2]; simp [ih]; grind
  | case5 a l b r c c2 ih => intro x; have e : a = b := by omega
                             rw [Rh06.merge, if_neg c, if_neg c2]; simp [ih]; grind
theorem merge_up : ∀ (l r : List Nat), Up l → Up r → Up (Rh06.merge l r) := by
  intro l r
  induction l, r using Rh06.merge.induct with
  | case1 r => intro hl hr; rw [Rh06.merge]; exact hr
  | case2 l h0 =>
    intro hl hr
    have e : Rh06.merge l [] = l := by cases l <;> rw [Rh06.merge]; intro h; cases h
    rw [e]; exact hl
  | case3 a l b r c ih =>
    intro hl hr
    have hl' := List.pairwise_cons.mp hl
    have hr' := List.pairwise_cons.mp hr
    rw [Rh06.merge, if_pos c]
    refine List.pairwise_cons.mpr ⟨fun x m => ?_, ih hl'.2 hr⟩
    rcases (merge_mem _ _ x).mp m with m | m
    · exact hl'.1 x m
    · rcases List.mem_cons.mp m with rfl | m
      · exact c
      · have := hr'.1 x m; omega
  | case4 a l b r c c2 ih =>
    intro hl hr
    have hl' := List.pairwise_cons.mp hl
    have hr' := List.pairwise_cons.mp hr
    rw [Rh06.merge, if_neg c, if_pos c2]
    refine List.pairwise_cons.mpr ⟨fun x m => ?_, ih hl hr'.2⟩
    rcases (merge_mem _ _ x).mp m with m | m
    · rcases List.mem_cons.mp m with rfl | m
      · exact c2
      · have := hl'.1 x m; omega
    · exact hr'.1 x m
  | case5 a l b r c c2 ih =>
    intro hl hr
    have hl' := List.pairwise_cons.mp hl
    have hr' := List.pairwise_cons.mp hr
    rw [Rh06.merge, if_neg c, if_neg c2]
    refine List.pairwise_cons.mpr ⟨fun x m => ?_, ih hl'.2 hr'.2⟩
    rcases (merge_mem _ _ x).mp m with m | m
    · exact hl'.1 x m
    · have := hr'.1 x m; omega
/-- what makes a stretch is told rising, each place once -/
theorem shows_up (t : List Nat) : ∀ (q : Rh06.Q) (x : Stretch), Up (Rh06.shows t q x)
  | .word _, x => by unfold Rh06.shows; exact List.pairwise_singleton _ _
  | .either i j, x => by
    unfold Rh06.shows
    split
    · exact shows_up t i x
    · exact shows_up t j x
  | .order i j, x => by unfold Rh06.shows; exact merge_up _ _ (shows_up t i _) (shows_up t j _)
  | .both i j, x => by unfold Rh06.shows; exact merge_up _ _ (shows_up t i _) (shows_up t j _)
  | .next i j, x => by unfold Rh06.shows; exact merge_up _ _ (shows_up t i _) (shows_up t j _)
  | .inside i j, x => by unfold Rh06.shows; exact shows_up t i x
  | .around i j, x => by unfold Rh06.shows; exact merge_up _ _ (shows_up t i _) (shows_up t j _)
  | .apart i j, x => by unfold Rh06.shows; exact shows_up t i x
  | .without i j, x => by unfold Rh06.shows; exact shows_up t i x
  | .outside i j, x => by unfold Rh06.shows; exact shows_up t i x
  | .within i n, x => by unfold Rh06.shows; exact shows_up t i x
  | .first i n, x => by unfold Rh06.shows; exact shows_up t i x
/-! ### by width, of as wide ones the first first -/
/-- narrower, or as wide and ahead -/
def Nar (a b : Stretch) : Prop := wide a < wide b ∨ (wide a = wide b ∧ a.1 < b.1)
theorem Nar.same : ∀ {l r : List Stretch}, l.Pairwise Nar → r.Pairwise Nar → l.Perm r → l = r
  | [], r, _, _, p => by rw [p.symm.eq_nil]
  | a :: l, [], _, _, p => by have := p.eq_nil; cases this
  | a :: l, b :: r, hl, hr, p => by
    have hl' := List.pairwise_cons.mp hl
    have hr' := List.pairwise_cons.mp hr
    have e : a = b := by
      rcases List.mem_cons.mp (p.mem_iff.mp (List.mem_cons_self ..)) with e | m
      · exact e
      · rcases List.mem_cons.mp (p.mem_iff.mpr (List.mem_cons_self ..)) with e | m'
        · exact e.symm
        · have h1 := hr'.1 a m
          have h2 := hl'.1 b m'
          unfold Nar at h1 h2
          omega
    subst e
    exact congrArg _ (Nar.same hl'.2 hr'.2 (List.perm_cons a |>.mp p))
theorem put_perm (x : Stretch) : ∀ l : List Stretch, (Rh06.put x l).Perm (x :: l)
  | [] => List.Perm.refl _
  | y :: l => by
    rw [Rh06.put]
    split
    · exact List.Perm.refl _
    · exact ((put_perm x l).cons y).trans (List.Perm.swap x y l)
theorem put_nar (x : Stretch) : ∀ l : List Stretch, l.Pairwise Nar → (∀ y ∈ l, y.1 < x.1) → (Rh06.put x l).Pairwise Nar
  | [], _, _ => List.pairwise_singleton _ _
  | y :: l, h, hx => by
    have h' := List.pairwise_cons.mp h
    rw [Rh06.put]
    split
    · next c =>
      refine List.pairwise_cons.mpr ⟨fun z m => ?_, h⟩
      rcases List.mem_cons.mp m with rfl | m
      · exact .inl c
      · have := h'.1 z m
        unfold Nar at this ⊢
        omega
    · next c =>
      refine List.pairwise_cons.mpr ⟨fun z m => ?_, put_nar x l h'.2 fun w m => hx w (List.mem_cons_of_mem _ m)⟩
      rcases List.mem_cons.mp ((put_perm x l).mem_iff.mp m) with rfl | m
      · have := hx y (List.mem_cons_self ..)
        unfold Nar
        omega
      · exact h'.1 z m
theorem sorted_go : ∀ (l acc : List Stretch), Rising l → acc.Pairwise Nar → (∀ y ∈ acc, ∀ x ∈ l, y.1 < x.1) → (l.foldl (fun s x => Rh06.put x s) acc).Pairwise Nar ∧ (l.foldl (fun s x => Rh06.put x s) acc).Perm (acc ++ l)
  | [], acc, _, h, _ => ⟨h, by rw [List.append_nil]; exact List.Perm.refl _⟩
  | x :: l, acc, hl, h, hx => by
    rw [List.foldl_cons]
    have hp := put_perm x acc
    obtain ⟨h1, h2⟩ := sorted_go l (Rh06.put x acc) hl.tail (put_nar x acc h fun y m => hx y m x (List.mem_cons_self ..)) fun y m z mz => by
      rcases List.mem_cons.mp (hp.mem_iff.mp m) with rfl | m
      · exact (hl.head z mz).1
      · exact hx y m z (List.mem_cons_of_mem _ mz)
    refine ⟨h1, h2.trans ?_⟩
    exact ((hp.append_right l).trans (by simp : (x :: acc ++ l).Perm (x :: (acc ++ l)))).trans List.perm_middle.symm
theorem sorted_nar {l : List Stretch} (h : Rising l) : (Rh06.sorted l).Pairwise Nar ∧ (Rh06.sorted l).Perm l := by
  have := sorted_go l [] h List.Pairwise.nil (fun _ m => nomatch m)
  rwa [List.nil_append] at this
/-- whatever arranges a rising list by width, as wide ones by their begins -/
theorem sorted_one {l r : List Stretch} (h : Rising l) (hr : r.Pairwise Nar) (hp : r.Perm l) : r = Rh06.sorted l :=
  Nar.same hr (sorted_nar h).1 (hp.trans (sorted_nar h).2.symm)
/-- Python's stable sort by width -/
theorem mergeSort_nar {l : List Stretch} (h : Rising l) : (l.mergeSort fun a b => decide (wide a ≤ wide b)).Pairwise Nar := by
  have tr : ∀ a b c : Stretch, (decide (wide a ≤ wide b)) = true → (decide (wide b ≤ wide c)) = true → (decide (wide a ≤ wide c)) = true := fun a b c => by simp; omega
  have tot : ∀ a b : Stretch, (decide (wide a ≤ wide b) || decide (wide b ≤ wide a)) = true := fun a b => by simp; omega
  have hp := List.mergeSort_perm l fun a b => decide (wide a ≤ wide b)
  have hs := List.pairwise_mergeSort (le := fun a b : Stretch => decide (wide a ≤ wide b)) tr tot l
  rw [List.pairwise_iff_forall_sublist] at hs ⊢
  intro a b s
  have h1 := hs s
  have ma : a ∈ l := hp.mem_iff.mp (s.subset (by simp))
  have mb : b ∈ l := hp.mem_iff.mp (s.subset (by simp))
  have nd : (l.mergeSort fun a b => decide (wide a ≤ wide b)).Pairwise (· ≠ ·) := hp.symm.pairwise (h.imp fun {a b} q e => by rw [e] at q; omega) (fun e => e.symm)
  have ne : a ≠ b := (List.pairwise_iff_forall_sublist.mp nd) s
  unfold Nar
  simp at h1
  rcases h.or ma mb with e | q | q
  · exact absurd e ne
  · omega
  · -- b stands ahead of a in l: if as wide, it stays ahead
    by_cases c : wide a < wide b
    · exact .inl c
    · exfalso
      have ba : [b, a].Sublist l := by
        have : ∀ {l : List Stretch}, Rising l → b ∈ l → a ∈ l → [b, a].Sublist l := fun {l} => by
          induction l with
          | nil => intro _ m; cases m
          | cons x l ih =>
            intro hl m1 m2
            rcases List.mem_cons.mp m1 with rfl | m1'
            · rcases List.mem_cons.mp m2 with e | m2'
              · exact absurd e ne
              · exact (List.singleton_sublist.mpr m2').cons_cons _
            · rcases List.mem_cons.mp m2 with rfl | m2'
              · have := (hl.head b m1').1; omega
              · exact (ih hl.tail m1' m2').cons _
        exact this h mb ma
      have s2 := List.pair_sublist_mergeSort (le := fun a b : Stretch => decide (wide a ≤ wide b)) tr tot (by simp; omega) ba
      -- both orders in a list without repetitions: no
      have : ∀ {m : List Stretch}, m.Pairwise (· ≠ ·) → [a, b].Sublist m → [b, a].Sublist m → False := fun {m} => by
        induction m with
        | nil => intro _ s; cases s
        | cons x m ih =>
          intro hm s1 s2
          have hm' := List.pairwise_cons.mp hm
          cases s1 with
          | cons _ s1 =>
            cases s2 with
            | cons _ s2 => exact ih hm'.2 s1 s2
            | cons_cons _ s2 => exact hm'.1 b (s1.subset (by simp)) rfl
          | cons_cons _ s1 =>
            cases s2 with
            | cons _ s2 => exact hm'.1 a (s2.subset (by simp)) rfl
            | cons_cons _ s2 => exact ne rfl
      exact this nd s s2
theorem sorted_merge {l : List Stretch} (h : Rising l) : (l.mergeSort fun a b => decide (wide a ≤ wide b)) = Rh06.sorted l := sorted_one h (mergeSort_nar h) (List.mergeSort_perm _ _)
end Ns

set_option Elab.async false
set_option linter.unusedVariables false
namespace Ns
open Rh06 (Stretch isIn wide push)
/-! ### which stretches of the parts make one -/
theorem one_begin {l : List Stretch} (hl : Rising l) {a b : Stretch} (ha : a ∈ l) (hb : b ∈ l) (e : a.1 = b.1) : a = b := by
  rcases hl.or ha hb with h | h | h
  · exact h
  · omega
  · omega
theorem one_end {l : List Stretch} (hl : Rising l) {a b : Stretch} (ha : a ∈ l) (hb : b ∈ l) (e : a.2 = b.2) : a = b := by
  rcases hl.or ha hb with h | h | h
  · exact h
  · omega
  · omega
theorem firstFrom_at {l : List Stretch} (hl : Rising l) {a : Stretch} (m : a ∈ l) : firstFrom l a.1 = some a := by
  cases e : firstFrom l a.1 with
  | none => have := firstFrom_none e a m; omega
  | some b =>
    obtain ⟨h1, h2, h3⟩ := firstFrom_some hl e
    have := h3 a m (Nat.le_refl _)
    rw [one_begin hl h1 m (by omega)]
theorem lastBy_at {l : List Stretch} (hl : Rising l) {a : Stretch} (m : a ∈ l) : lastBy l a.2 = some a := by
  cases e : lastBy l a.2 with
  | none => have := lastBy_none e a m; omega
  | some b =>
    obtain ⟨h1, h2, h3⟩ := lastBy_some hl e
    have := h3 a m (Nat.le_refl _)
    rcases hl.or h1 m with h | h | h
    · rw [h]
    · omega
    · omega
theorem begins_at {l : List Stretch} (hl : Rising l) {a : Stretch} (m : a ∈ l) : Rh06.begins l a.1 = a := by
  unfold Rh06.begins
  cases e : l.find? fun x => x.1 == a.1 with
  | none =>
    have := List.find?_eq_none.mp e a m
    simp at this
  | some b =>
    have h1 := List.mem_of_find?_eq_some e
    have h2 := List.find?_some e
    exact one_begin hl h1 m (by simpa using h2)
theorem ends_at {l : List Stretch} (hl : Rising l) {a : Stretch} (m : a ∈ l) : Rh06.ends l a.2 = a := by
  unfold Rh06.ends
  cases e : l.find? fun x => x.2 == a.2 with
  | none =>
    have := List.find?_eq_none.mp e a m
    simp at this
  | some b =>
    have h1 := List.mem_of_find?_eq_some e
    have h2 := List.find?_some e
    exact one_end hl h1 m (by simpa using h2)
/-- the first one that lies in it -/
def inFirst (r : List Stretch) (x : Stretch) : Option Stretch := r.find? fun y => isIn y x
theorem inFirst_at {r : List Stretch} {x b : Stretch} (m : b ∈ r) (h : In b x) : ∃ c, inFirst r x = some c ∧ Rh06.firstIn r x = c ∧ c ∈ r := by
  unfold Rh06.firstIn
  cases e : inFirst r x with
  | none =>
    have := List.find?_eq_none.mp e b m
    rw [isIn_iff.mpr h] at this
    exact absurd rfl this
  | some c =>
    have e' : (r.find? fun y => isIn y x) = some c := e
    exact ⟨c, rfl, by rw [e']; rfl, List.mem_of_find?_eq_some e'⟩
/-- the left part's share, by the call's number -/
def leftM (k : Nat) (x : Stretch) (l : List Stretch) : Option Stretch :=
  if k = 4 then (if l.contains x = true then some x else none) else if k = 5 ∨ k = 7 then firstFrom l x.1 else if k = 6 then inFirst l x else some x
def rightM (k : Nat) (x : Stretch) (l r : List Stretch) : Option Stretch :=
  if k = 4 then (if l.contains x = true then none else some x) else if k = 5 ∨ k = 7 then lastBy r x.2 else if k = 6 ∨ k = 9 then inFirst r x else none
/-- what makes it: the two shares -/
structure Made (t : List Nat) (p q j : Rh06.Q) (x : Stretch) (lo ro : Option Stretch) : Prop where
  left : ∀ s, lo = some s → s ∈ Rh06.row t p
  right : ∀ s, ro = some s → s ∈ Rh06.row t q
  all : ∀ y, y ∈ Rh06.shows t j x ↔ (∃ s, lo = some s ∧ y ∈ Rh06.shows t p s) ∨ ∃ s, ro = some s ∧ y ∈ Rh06.shows t q s
theorem Made.two {t : List Nat} {p q j : Rh06.Q} {x a b : Stretch} {lo ro : Option Stretch} (ha : lo = some a) (hb : ro = some b) (ma : a ∈ Rh06.row t p) (mb : b ∈ Rh06.row t q) (h : Rh06.shows t j x = Rh06.merge (Rh06.shows t p a) (Rh06.shows t q b)) : Made t p q j x lo ro := by
  subst ha hb
  refine ⟨fun s e => by cases e; exact ma, fun s e => by cases e; exact mb, fun y => ?_⟩
  rw [h, merge_mem]
  simp
theorem Made.one {t : List Nat} {p q j : Rh06.Q} {x : Stretch} {lo ro : Option Stretch} (ha : lo = some x) (hb : ro = none) (ma : x ∈ Rh06.row t p) (h : Rh06.shows t j x = Rh06.shows t p x) : Made t p q j x lo ro := by
  subst ha hb
  refine ⟨fun s e => by cases e; exact ma, (fun s e => nomatch e), fun y => ?_⟩
  rw [h]
  simp
theorem Made.other {t : List Nat} {p q j : Rh06.Q} {x : Stretch} {lo ro : Option Stretch} (ha : lo = none) (hb : ro = some x) (mb : x ∈ Rh06.row t q) (h : Rh06.shows t j x = Rh06.shows t q x) : Made t p q j x lo ro := by
  subst ha hb
  refine ⟨(fun s e => nomatch e), fun s e => by cases e; exact mb, fun y => ?_⟩
  rw [h]
  simp
theorem made_join (t : List Nat) {k : Nat} (h4 : 4 ≤ k) (h12 : k ≤ 12) (p q : Rh06.Q) {x : Stretch} (hx : x ∈ Rh06.row t (Rh06.joined (k - 4) p q)) :
    Made t p q (Rh06.joined (k - 4) p q) x (leftM k x (Rh06.row t p)) (rightM k x (Rh06.row t p) (Rh06.row t q)) := by
  have rp := (row_ok t p).1
  have rq := (row_ok t q).1
  have : k = 4 ∨ k = 5 ∨ k = 6 ∨ k = 7 ∨ k = 8 ∨ k = 9 ∨ k = 10 ∨ k = 11 ∨ k = 12 := by omega
  rcases this with rfl | rfl | rfl | rfl | rfl | rfl | rfl | rfl | rfl
  · have hx' : x ∈ Rh06.either (Rh06.row t p) (Rh06.row t q) := hx
    have sh : Rh06.shows t (.either p q) x = if (Rh06.row t p).contains x = true then Rh06.shows t p x else Rh06.shows t q x := by rw [Rh06.shows]
    by_cases c : (Rh06.row t p).contains x = true
    · rw [if_pos c] at sh
      exact .one (by unfold leftM; simp only [if_pos c]; rfl) (by unfold rightM; simp only [if_pos c]; rfl) (by simpa using c) sh
    · rw [if_neg c] at sh
      refine .other (by unfold leftM; simp only [if_neg c]; rfl) (by unfold rightM; simp only [if_neg c]; rfl) ?_ sh
      rcases (either_least _ _ rp rq).mem x hx' with h | h
      · exact absurd (by simpa using h) c
      · exact h
  · have hx' : x ∈ Rh06.order (Rh06.row t p) (Rh06.row t q) := hx
    obtain ⟨a, b, ha, hb, _, rfl⟩ := (order_least _ _ rp rq).mem x hx'
    refine .two (a := a) (b := b) (firstFrom_at rp ha) (lastBy_at rq hb) ha hb ?_
    show Rh06.shows t (.order p q) (a.1, b.2) = _
    rw [Rh06.shows, begins_at rp ha, ends_at rq hb]
  · have hx' : x ∈ Rh06.both (Rh06.row t p) (Rh06.row t q) := hx
    obtain ⟨a, b, ha, hb, rfl⟩ := (both_least _ _ rp rq).mem x hx'
    obtain ⟨c, e1, e2, m⟩ := inFirst_at (x := (min a.1 b.1, max a.2 b.2)) ha (show In a _ from ⟨by show min a.1 b.1 ≤ a.1; omega, by show a.2 ≤ max a.2 b.2; omega⟩)
    obtain ⟨d, f1, f2, n⟩ := inFirst_at (x := (min a.1 b.1, max a.2 b.2)) hb (show In b _ from ⟨by show min a.1 b.1 ≤ b.1; omega, by show b.2 ≤ max a.2 b.2; omega⟩)
    refine .two (a := c) (b := d) e1 f1 m n ?_
    show Rh06.shows t (.both p q) _ = _
    rw [Rh06.shows, e2, f2]
  · have hx' : x ∈ Rh06.next (Rh06.row t p) (Rh06.row t q) := hx
    obtain ⟨a, b, ha, hb, _, rfl⟩ := (next_mem _ _ rp rq x).mp hx'
    refine .two (a := a) (b := b) (firstFrom_at rp ha) (lastBy_at rq hb) ha hb ?_
    show Rh06.shows t (.next p q) (a.1, b.2) = _
    rw [Rh06.shows, begins_at rp ha, ends_at rq hb]
  · have hx' : x ∈ (Rh06.row t p).filter (Rh06.isInside (Rh06.row t q)) := hx
    exact .one rfl rfl (List.mem_filter.mp hx').1 (by show Rh06.shows t (.inside p q) x = _; rw [Rh06.shows])
  · have hx' : x ∈ (Rh06.row t p).filter (Rh06.isAround (Rh06.row t q)) := hx
    obtain ⟨m, h⟩ := List.mem_filter.mp hx'
    rw [around_any rq, List.any_eq_true] at h
    obtain ⟨b, hb, h⟩ := h
    obtain ⟨c, e1, e2, n⟩ := inFirst_at hb (isIn_iff.mp h)
    refine .two (a := x) (b := c) rfl e1 m n ?_
    show Rh06.shows t (.around p q) x = _
    rw [Rh06.shows, e2]
  · have hx' : x ∈ (Rh06.row t p).filter (fun a => !Rh06.meets (Rh06.row t q) a) := hx
    exact .one rfl rfl (List.mem_filter.mp hx').1 (by show Rh06.shows t (.apart p q) x = _; rw [Rh06.shows])
  · have hx' : x ∈ (Rh06.row t p).filter (fun a => !Rh06.isAround (Rh06.row t q) a) := hx
    exact .one rfl rfl (List.mem_filter.mp hx').1 (by show Rh06.shows t (.without p q) x = _; rw [Rh06.shows])
  · have hx' : x ∈ (Rh06.row t p).filter (fun a => !Rh06.isInside (Rh06.row t q) a) := hx
    exact .one rfl rfl (List.mem_filter.mp hx').1 (by show Rh06.shows t (.outside p q) x = _; rw [Rh06.shows])
/-- within (13) or first (14) -/
def bd (k : Nat) (q : Rh06.Q) (n : Nat) : Rh06.Q := if k = 13 then .within q n else .first q n
def jBound (k n : Nat) (l : List Stretch) : List Stretch := if k = 13 then l.filter fun a => decide (wide a ≤ n) else l.filter fun a => decide (a.2 ≤ n)
theorem bd_row (t : List Nat) (k n : Nat) (q : Rh06.Q) : Rh06.row t (bd k q n) = jBound k n (Rh06.row t q) := by
  unfold bd jBound
  by_cases c : k = 13
  · rw [if_pos c, if_pos c, Rh06.row]
  · rw [if_neg c, if_neg c, Rh06.row]
theorem bd_shows (t : List Nat) (k n : Nat) (q : Rh06.Q) (x : Stretch) : Rh06.shows t (bd k q n) x = Rh06.shows t q x := by
  unfold bd
  by_cases c : k = 13
  · rw [if_pos c, Rh06.shows]
  · rw [if_neg c, Rh06.shows]
theorem bd_size (k n : Nat) (q : Rh06.Q) : Rh06.size (bd k q n) = Rh06.size q := by
  unfold bd
  by_cases c : k = 13
  · rw [if_pos c, Rh06.size]
  · rw [if_neg c, Rh06.size]
theorem bd_mem {t : List Nat} {k n : Nat} {q : Rh06.Q} {x : Stretch} (h : x ∈ Rh06.row t (bd k q n)) : x ∈ Rh06.row t q := by
  rw [bd_row] at h
  unfold jBound at h
  split at h <;> exact (List.mem_filter.mp h).1
/-- how many questions are in one, itself too -/
def nodes : Rh06.Q → Nat
  | .word _ => 1
  | .either i j => nodes i + nodes j + 1
  | .order i j => nodes i + nodes j + 1
  | .both i j => nodes i + nodes j + 1
  | .next i j => nodes i + nodes j + 1
  | .inside i j => nodes i + nodes j + 1
  | .around i j => nodes i + nodes j + 1
  | .apart i j => nodes i + nodes j + 1
  | .without i j => nodes i + nodes j + 1
  | .outside i j => nodes i + nodes j + 1
  | .within i _ => nodes i + 1
  | .first i _ => nodes i + 1
theorem nodes_join (k : Nat) (p q : Rh06.Q) : nodes (Rh06.joined k p q) = nodes p + nodes q + 1 := by
  unfold Rh06.joined
  split <;> rfl
theorem nodes_bd (k n : Nat) (q : Rh06.Q) : nodes (bd k q n) = nodes q + 1 := by
  unfold bd
  split <;> rfl
theorem nodes_pos (q : Rh06.Q) : 0 < nodes q := by cases q <;> exact Nat.succ_pos _
/-- the places that make a stretch are the text's -/
theorem shows_in (t : List Nat) : ∀ (q : Rh06.Q) (x : Stretch), x ∈ Rh06.row t q → ∀ y ∈ Rh06.shows t q x, 1 ≤ y ∧ y ≤ t.length
  | .word w, x, hx, y, hy => by
    rw [Rh06.shows, List.mem_singleton] at hy
    have := (row_ok t (.word w)).2 x hx
    omega
  | .either i j, x, hx, y, hy => go t 4 i j (shows_in t i) (shows_in t j) (by omega) (by omega) hx hy
  | .order i j, x, hx, y, hy => go t 5 i j (shows_in t i) (shows_in t j) (by omega) (by omega) hx hy
  | .both i j, x, hx, y, hy => go t 6 i j (shows_in t i) (shows_in t j) (by omega) (by omega) hx hy
  | .next i j, x, hx, y, hy => go t 7 i j (shows_in t i) (shows_in t j) (by omega) (by omega) hx hy
  | .inside i j, x, hx, y, hy => go t 8 i j (shows_in t i) (shows_in t j) (by omega) (by omega) hx hy
  | .around i j, x, hx, y, hy => go t 9 i j (shows_in t i) (shows_in t j) (by omega) (by omega) hx hy
  | .apart i j, x, hx, y, hy => go t 10 i j (shows_in t i) (shows_in t j) (by omega) (by omega) hx hy
  | .without i j, x, hx, y, hy => go t 11 i j (shows_in t i) (shows_in t j) (by omega) (by omega) hx hy
  | .outside i j, x, hx, y, hy => go t 12 i j (shows_in t i) (shows_in t j) (by omega) (by omega) hx hy
  | .within i n, x, hx, y, hy => shows_in t i x (bd_mem (k := 13) (n := n) hx) y (by rw [← bd_shows t 13 n i x]; exact hy)
  | .first i n, x, hx, y, hy => shows_in t i x (bd_mem (k := 14) (n := n) hx) y (by rw [← bd_shows t 14 n i x]; exact hy)
where
  go (t : List Nat) (k : Nat) (i j : Rh06.Q) (ii : ∀ (x : Stretch), x ∈ Rh06.row t i → ∀ y ∈ Rh06.shows t i x, 1 ≤ y ∧ y ≤ t.length) (ij : ∀ (x : Stretch), x ∈ Rh06.row t j → ∀ y ∈ Rh06.shows t j x, 1 ≤ y ∧ y ≤ t.length)
      (h4 : 4 ≤ k) (h12 : k ≤ 12) {x : Stretch} (hx : x ∈ Rh06.row t (Rh06.joined (k - 4) i j)) {y : Nat} (hy : y ∈ Rh06.shows t (Rh06.joined (k - 4) i j) x) : 1 ≤ y ∧ y ≤ t.length := by
    have m := made_join t h4 h12 i j hx
    rcases (m.all y).mp hy with ⟨s, e, h⟩ | ⟨s, e, h⟩
    · exact ii s (m.left s e) y h
    · exact ij s (m.right s e) y h
/-! ### the walk over what waits -/
/-- what waits: the number in the order of laying, and a stretch -/
abbrev Job := Nat × Stretch
def jobShows (t : List Nat) (ts : List Rh06.Q) (b : Job) : List Nat := match ts[b.1]? with
  | some q => Rh06.shows t q b.2
  | none => []
def jobNodes (ts : List Rh06.Q) (b : Job) : Nat := match ts[b.1]? with
  | some q => nodes q
  | none => 0
def jobsNodes (ts : List Rh06.Q) (W : List Job) : Nat := (W.map (jobNodes ts)).sum
theorem jobsNodes_app (ts : List Rh06.Q) (W U : List Job) : jobsNodes ts (W ++ U) = jobsNodes ts W + jobsNodes ts U := by
  unfold jobsNodes
  rw [List.map_append, List.sum_append]
/-- between two turns: W waits, M has been made; L is due, i0 was asked -/
structure Walk (t : List Nat) (ts : List Rh06.Q) (i0 : Nat) (L : List Nat) (W : List Job) (M : List Nat) : Prop where
  good : ∀ b ∈ W, ∃ q, ts[b.1]? = some q ∧ b.2 ∈ Rh06.row t q
  deep : ∀ j b, W[j]? = some b → j + b.1 ≤ i0
  nd : M.Nodup
  all : ∀ y, y ∈ L ↔ y ∈ M ∨ ∃ b ∈ W, y ∈ jobShows t ts b
theorem Walk.len {t : List Nat} {ts : List Rh06.Q} {i0 : Nat} {L : List Nat} {W : List Job} {M : List Nat} (h : Walk t ts i0 L W M) : W.length ≤ i0 + 1 := by
  cases e : W.length with
  | zero => omega
  | succ n =>
    have hn : n < W.length := by omega
    have := h.deep n _ (List.getElem?_eq_getElem hn)
    omega
theorem Walk.start {t : List Nat} {ts : List Rh06.Q} {i0 : Nat} {q : Rh06.Q} {x : Stretch} (hq : ts[i0]? = some q) (hx : x ∈ Rh06.row t q) : Walk t ts i0 (Rh06.shows t q x) [(i0, x)] [] := by
  refine ⟨fun b m => ?_, fun j b h => ?_, List.nodup_nil, fun y => ?_⟩
  · rw [List.mem_singleton.mp m]
    exact ⟨q, hq, hx⟩
  · cases j with
    | zero => cases h; simp
    | succ j => simp at h
  · have e : jobShows t ts (i0, x) = Rh06.shows t q x := by unfold jobShows; simp only [hq]
    simp [e]
/-- a place is put among them once -/
def putN (M : List Nat) (n : Nat) : List Nat := if n ∈ M then M else M ++ [n]
theorem putN_mem {M : List Nat} {n y : Nat} : y ∈ putN M n ↔ y ∈ M ∨ y = n := by
  unfold putN
  split
  · next h =>
    constructor
    · exact .inl
    · rintro (h' | rfl)
      · exact h'
      · exact h
  · simp
theorem putN_nd {M : List Nat} (h : M.Nodup) (n : Nat) : (putN M n).Nodup := by
  unfold putN
  split
  · exact h
  · next c =>
    rw [List.nodup_append]
    refine ⟨h, by simp, fun a ha b hb => ?_⟩
    rw [List.mem_singleton.mp hb]
    exact fun z => c (z ▸ ha)
theorem mem_last {α : Type} {W : List α} {a b : α} : b ∈ W ++ [a] ↔ b ∈ W ∨ b = a := by simp
theorem Walk.word {t : List Nat} {ts : List Rh06.Q} {i0 : Nat} {L : List Nat} {W : List Job} {M : List Nat} {i w : Nat} {x : Stretch} (h : Walk t ts i0 L (W ++ [(i, x)]) M) (hq : ts[i]? = some (.word w)) : Walk t ts i0 L W (putN M x.1) := by
  have e : jobShows t ts (i, x) = [x.1] := by unfold jobShows; simp only [hq]; rw [Rh06.shows]
  refine ⟨fun b m => h.good b (List.mem_append_left _ m), fun j b hj => h.deep j b (by rw [List.getElem?_append_left (List.getElem?_eq_some_iff.mp hj).1]; exact hj), putN_nd h.nd _, fun y => ?_⟩
  rw [h.all y, putN_mem]
  constructor
  · rintro (h' | ⟨b, m, h'⟩)
    · exact .inl (.inl h')
    · rcases mem_last.mp m with m | rfl
      · exact .inr ⟨b, m, h'⟩
      · rw [e] at h'
        exact .inl (.inr (List.mem_singleton.mp h'))
  · rintro ((h' | h') | ⟨b, m, h'⟩)
    · exact .inl h'
    · exact .inr ⟨_, mem_last.mpr (.inr rfl), by rw [e, h']; exact List.mem_singleton.mpr rfl⟩
    · exact .inr ⟨b, mem_last.mpr (.inl m), h'⟩
/-- the last one gives way to those that make it -/
theorem Walk.more {t : List Nat} {ts : List Rh06.Q} {i0 : Nat} {L : List Nat} {W U : List Job} {M : List Nat} {i : Nat} {x : Stretch} (h : Walk t ts i0 L (W ++ [(i, x)]) M) (hg : ∀ b ∈ U, b.1 < i ∧ ∃ q, ts[b.1]? = some q ∧ b.2 ∈ Rh06.row t q) (h2 : U.length ≤ 2) (ha : ∀ y, y ∈ jobShows t ts (i, x) ↔ ∃ b ∈ U, y ∈ jobShows t ts b) :
    Walk t ts i0 L (W ++ U) M := by
  have top := h.deep W.length (i, x) (by rw [List.getElem?_concat_length])
  refine ⟨fun b m => ?_, fun j b hj => ?_, h.nd, fun y => ?_⟩
  · rcases List.mem_append.mp m with m | m
    · exact h.good b (List.mem_append_left _ m)
    · exact (hg b m).2
  · by_cases c : j < W.length
    · rw [List.getElem?_append_left c] at hj
      exact h.deep j b (by rw [List.getElem?_append_left c]; exact hj)
    · rw [List.getElem?_append_right (by omega)] at hj
      have h1 := (hg b (List.mem_of_getElem? hj)).1
      have h3 := (List.getElem?_eq_some_iff.mp hj).1
      omega
  · rw [h.all y]
    constructor
    · rintro (h' | ⟨b, m, h'⟩)
      · exact .inl h'
      · rcases mem_last.mp m with m | rfl
        · exact .inr ⟨b, List.mem_append_left _ m, h'⟩
        · obtain ⟨c, m, h'⟩ := (ha y).mp h'
          exact .inr ⟨c, List.mem_append_right _ m, h'⟩
    · rintro (h' | ⟨b, m, h'⟩)
      · exact .inl h'
      · rcases List.mem_append.mp m with m | m
        · exact .inr ⟨b, mem_last.mpr (.inl m), h'⟩
        · exact .inr ⟨_, mem_last.mpr (.inr rfl), (ha y).mpr ⟨b, m, h'⟩⟩
/-- a part's share as what waits -/
def share (i : Nat) (o : Option Stretch) : List Job := match o with
  | some s => [(i, s)]
  | none => []
theorem mem_share {i : Nat} {o : Option Stretch} {b : Job} : b ∈ share i o ↔ ∃ s, o = some s ∧ b = (i, s) := by
  cases o with
  | none => simp [share]
  | some s => simp [share]
theorem share_len (i : Nat) (o : Option Stretch) : (share i o).length ≤ 1 := by cases o <;> simp [share]
theorem share_nodes {ts : List Rh06.Q} {i : Nat} {q : Rh06.Q} (h : ts[i]? = some q) (o : Option Stretch) : jobsNodes ts (share i o) ≤ nodes q := by
  cases o with
  | none => exact Nat.zero_le _
  | some s =>
    unfold jobsNodes share
    simp [jobNodes, h]
theorem Walk.join {t : List Nat} {ts : List Rh06.Q} {i0 : Nat} {L : List Nat} {W : List Job} {M : List Nat} {i k a b : Nat} {x : Stretch} {p q : Rh06.Q} (h : Walk t ts i0 L (W ++ [(i, x)]) M) (hq : ts[i]? = some (Rh06.joined (k - 4) p q)) (h4 : 4 ≤ k) (h12 : k ≤ 12) (ha : a < i) (hb : b < i) (ta : ts[a]? = some p) (tb : ts[b]? = some q) :
    Walk t ts i0 L (W ++ (share a (leftM k x (Rh06.row t p)) ++ share b (rightM k x (Rh06.row t p) (Rh06.row t q)))) M := by
  obtain ⟨q', e', hx⟩ := h.good (i, x) (List.mem_append_right _ (List.mem_singleton.mpr rfl))
  rw [show ts[((i, x) : Job).1]? = ts[i]? from rfl, hq] at e'
  cases e'
  have m := made_join t h4 h12 p q hx
  refine h.more (fun c mc => ?_) ?_ (fun y => ?_)
  · rcases List.mem_append.mp mc with mc | mc
    · obtain ⟨s, e, rfl⟩ := mem_share.mp mc
      exact ⟨ha, p, ta, m.left s e⟩
    · obtain ⟨s, e, rfl⟩ := mem_share.mp mc
      exact ⟨hb, q, tb, m.right s e⟩
  · have h1 := share_len a (leftM k x (Rh06.row t p))
    have h2 := share_len b (rightM k x (Rh06.row t p) (Rh06.row t q))
    rw [List.length_append]
    omega
  · have e1 : jobShows t ts (i, x) = Rh06.shows t (Rh06.joined (k - 4) p q) x := by unfold jobShows; simp only [hq]
    have e2 : ∀ s, jobShows t ts (a, s) = Rh06.shows t p s := fun s => by unfold jobShows; simp only [ta]
    have e3 : ∀ s, jobShows t ts (b, s) = Rh06.shows t q s := fun s => by unfold jobShows; simp only [tb]
    rw [e1, m.all y]
    constructor
    · rintro (⟨s, e, h'⟩ | ⟨s, e, h'⟩)
      · exact ⟨(a, s), List.mem_append_left _ (mem_share.mpr ⟨s, e, rfl⟩), by rw [e2]; exact h'⟩
      · exact ⟨(b, s), List.mem_append_right _ (mem_share.mpr ⟨s, e, rfl⟩), by rw [e3]; exact h'⟩
    · rintro ⟨c, mc, h'⟩
      rcases List.mem_append.mp mc with mc | mc
      · obtain ⟨s, e, rfl⟩ := mem_share.mp mc
        rw [e2] at h'
        exact .inl ⟨s, e, h'⟩
      · obtain ⟨s, e, rfl⟩ := mem_share.mp mc
        rw [e3] at h'
        exact .inr ⟨s, e, h'⟩
theorem Walk.bound {t : List Nat} {ts : List Rh06.Q} {i0 : Nat} {L : List Nat} {W : List Job} {M : List Nat} {i k a n : Nat} {x : Stretch} {p : Rh06.Q} (h : Walk t ts i0 L (W ++ [(i, x)]) M) (hq : ts[i]? = some (bd k p n)) (ha : a < i) (ta : ts[a]? = some p) : Walk t ts i0 L (W ++ share a (some x)) M := by
  obtain ⟨q', e', hx⟩ := h.good (i, x) (List.mem_append_right _ (List.mem_singleton.mpr rfl))
  rw [show ts[((i, x) : Job).1]? = ts[i]? from rfl, hq] at e'
  cases e'
  refine h.more (fun c mc => ?_) (Nat.le_trans (share_len _ _) (by omega)) (fun y => ?_)
  · obtain ⟨s, e, rfl⟩ := mem_share.mp mc
    cases e
    exact ⟨ha, p, ta, bd_mem hx⟩
  · have e1 : jobShows t ts (i, x) = Rh06.shows t (bd k p n) x := by unfold jobShows; simp only [hq]
    have e2 : jobShows t ts (a, x) = Rh06.shows t p x := by unfold jobShows; simp only [ta]
    rw [e1, bd_shows]
    unfold share
    simp [e2]
/-- those that wait become fewer -/
theorem nodes_last {ts : List Rh06.Q} {W U : List Job} {i n : Nat} {x : Stretch} {q : Rh06.Q} (hq : ts[i]? = some q) (h : jobsNodes ts U < nodes q) : jobsNodes ts (W ++ U) < jobsNodes ts (W ++ [(i, x)]) := by
  rw [jobsNodes_app, jobsNodes_app]
  have : jobsNodes ts [(i, x)] = nodes q := by unfold jobsNodes; simp [jobNodes, hq]
  omega
/-! ### the places, sorted -/
theorem Up.len : ∀ {l : List Nat} {k n : Nat}, Up l → (∀ a ∈ l, k < a ∧ a ≤ n) → l.length ≤ n - k
  | [], _, _, _, _ => Nat.zero_le _
  | a :: l, k, n, h, hb => by
    have h' := List.pairwise_cons.mp h
    have h1 := hb a (List.mem_cons_self ..)
    have := Up.len (l := l) (k := a) (n := n) h'.2 fun b m => ⟨h'.1 b m, (hb b (List.mem_cons_of_mem _ m)).2⟩
    rw [List.length_cons]
    omega
theorem up_of_le {l : List Nat} (h : l.Pairwise (· ≤ ·)) (nd : l.Nodup) : Up l := by
  unfold Up
  refine List.Pairwise.imp₂ (R := (· ≤ ·)) (S := (· ≠ ·)) (fun a b h1 h2 => by omega) h nd
theorem nodup_len {M : List Nat} {n : Nat} (nd : M.Nodup) (h : ∀ y ∈ M, 1 ≤ y ∧ y ≤ n) : M.length ≤ n := by
  have p := List.mergeSort_perm M fun a b => decide (a ≤ b)
  have s : (M.mergeSort fun a b => decide (a ≤ b)).Pairwise (· ≤ ·) := (List.pairwise_mergeSort (le := fun a b : Nat => decide (a ≤ b)) (by intro a b c; simp; omega) (by intro a b; simp; omega) M).imp (by intro a b; simp)
  have := Up.len (k := 0) (n := n) (up_of_le s (p.nodup_iff.mpr nd)) fun a m => by
    have := h a (p.mem_iff.mp m)
    omega
  rw [p.length_eq] at this
  omega
theorem sorted_places {ys : List Int} {M L : List Nat} (hp : ys.Perm (M.map fun (n : Nat) => (n : Int))) (hs : ys.Pairwise (· ≤ ·)) (nd : M.Nodup) (hm : ∀ y, y ∈ L ↔ y ∈ M) (up : Up L) : ys = L.map fun (n : Nat) => (n : Int) := by
  have p1 : (ys.map Int.toNat).Perm M := by
    have := hp.map Int.toNat
    rw [List.map_map] at this
    have e : M.map (Int.toNat ∘ fun (n : Nat) => (n : Int)) = M := by
      conv => rhs; rw [← List.map_id M]
      exact List.map_congr_left fun a _ => by simp
    rwa [e] at this
  have nn : ∀ y ∈ ys, 0 ≤ y := fun y m => by
    obtain ⟨n, _, rfl⟩ := List.mem_map.mp (hp.mem_iff.mp m)
    omega
  have s1 : (ys.map Int.toNat).Pairwise (· ≤ ·) := by
    rw [List.pairwise_map]
    exact hs.imp (by intro a b h; omega)
  have e := Up.same (up_of_le s1 (p1.nodup_iff.mpr nd)) up fun y => by rw [p1.mem_iff, hm y]
  rw [← e, List.map_map]
  conv => lhs; rw [← List.map_id ys]
  exact List.map_congr_left fun a m => by
    have := nn a m
    simp only [id_eq, Function.comp_apply]
    omega
end Ns

set_option Elab.async false
set_option linter.unusedVariables false
/-! The flat list of calls, call by call. -/
namespace Ns
/-- how many numbers stand behind a call's own, of those that have no row -/
def arity (p : Int) : Nat := if p = 2 ∨ p = 15 ∨ p = 17 then 1 else if p = 3 ∨ p = 16 ∨ p = 19 ∨ p = 20 then 2 else 3
/-- a flat list begins with a call (as the document's calls have it) and goes on with t -/
inductive Head : List Int → List Int → List Int → Prop
  | row (p : Int) (ws t : List Int) : p = 0 ∨ p = 1 → Head (p :: (ws.length : Int) :: (ws ++ t)) (p :: ws) t
  | args (p : Int) (as t : List Int) : 2 ≤ p → p ≤ 21 → as.length = arity p → Head (p :: (as ++ t)) (p :: as) t
theorem shape_row {p : Int} (h : p = 0 ∨ p = 1) : PyRh06.shape p = some (0, 1) := by
  rcases h with rfl | rfl <;> rfl
theorem shape_args {p : Int} (h : 2 ≤ p) (k : p ≤ 21) : PyRh06.shape p = some (arity p, 0) := by
  have : p = 2 ∨ p = 3 ∨ p = 4 ∨ p = 5 ∨ p = 6 ∨ p = 7 ∨ p = 8 ∨ p = 9 ∨ p = 10 ∨ p = 11 ∨ p = 12 ∨ p = 13 ∨ p = 14 ∨ p = 15 ∨ p = 16 ∨ p = 17 ∨ p = 18 ∨ p = 19 ∨ p = 20 ∨ p = 21 := by omega
  rcases this with rfl | rfl | rfl | rfl | rfl | rfl | rfl | rfl | rfl | rfl | rfl | rfl | rfl | rfl | rfl | rfl | rfl | rfl | rfl | rfl <;> rfl
theorem shape_none {p : Int} (h : ¬ (0 ≤ p ∧ p ≤ 21)) : PyRh06.shape p = none := by
  unfold PyRh06.shape
  repeat rw [if_neg (by omega)]
theorem whole_row {p : Int} (h : p = 0 ∨ p = 1) (ws : List Int) : PyRh06.whole [[p], ws] = [p :: ws] := by
  rcases h with rfl | rfl <;> rfl
theorem whole_args {p : Int} (h : 2 ≤ p) (k : p ≤ 21) {as : List Int} (ha : as.length = arity p) : PyRh06.whole [p :: as] = [p :: as] := by
  have : p = 2 ∨ p = 3 ∨ p = 4 ∨ p = 5 ∨ p = 6 ∨ p = 7 ∨ p = 8 ∨ p = 9 ∨ p = 10 ∨ p = 11 ∨ p = 12 ∨ p = 13 ∨ p = 14 ∨ p = 15 ∨ p = 16 ∨ p = 17 ∨ p = 18 ∨ p = 19 ∨ p = 20 ∨ p = 21 := by omega
  rcases this with rfl | rfl | rfl | rfl | rfl | rfl | rfl | rfl | rfl | rfl | rfl | rfl | rfl | rfl | rfl | rfl | rfl | rfl | rfl | rfl <;>
  · match as, ha with
    | [_], _ => rfl
    | [_, _], _ => rfl
    | [_, _, _], _ => rfl
theorem take_drop_eq {n : Nat} {l : List Int} (h : n ≤ l.length) : ∃ a t, l = a ++ t ∧ a.length = n ∧ l.take n = a ∧ l.drop n = t :=
  ⟨l.take n, l.drop n, (List.take_append_drop n l).symm, by rw [List.length_take]; omega, rfl, rfl⟩
/-- one call is read -/
theorem call_head {l : List Int} {c : List (List Int)} {t : List Int} (h : PyFlat.call PyRh06.shape l = some (c, t)) : ∃ w, PyRh06.whole c = [w] ∧ Head l w t := by
  cases l with
  | nil => cases h
  | cons p r =>
    unfold PyFlat.call at h
    try dsimp only at h
    by_cases b : 0 ≤ p ∧ p ≤ 21
    · by_cases b1 : p = 0 ∨ p = 1
      · rw [shape_row b1] at h
        try dsimp only at h
        rw [if_neg (Nat.not_lt_zero _)] at h
        cases r with
        | nil => cases h
        | cons n r =>
          rw [List.drop_zero, List.take_zero] at h
          simp only [PyFlat.rows, PyFlat.row] at h
          by_cases k : 0 ≤ n ∧ n.toNat ≤ r.length
          · rw [if_pos k] at h
            try dsimp only at h
            obtain ⟨a, t', e, la, e1, e2⟩ := take_drop_eq k.2
            rw [e1, e2] at h
            cases h
            refine ⟨p :: a, whole_row b1 a, ?_⟩
            have hn : n = (a.length : Int) := by rw [la]; omega
            rw [e, hn]
            exact Head.row p a _ b1
          · rw [if_neg k] at h
            cases h
      · have h2 : 2 ≤ p := by omega
        rw [shape_args h2 b.2] at h
        try dsimp only at h
        by_cases k : r.length < arity p
        · rw [if_pos k] at h
          cases h
        · rw [if_neg k] at h
          obtain ⟨a, t', e, la, e1, e2⟩ := take_drop_eq (Nat.le_of_not_lt k)
          rw [e1, e2] at h
          dsimp only [PyFlat.rows] at h
          cases h
          exact ⟨p :: a, whole_args h2 b.2 la, by rw [e]; exact Head.args p a _ h2 b.2 la⟩
    · rw [shape_none b] at h
      cases h
/-- what is left of a line: its calls, one behind another -/
inductive Line : List Int → List (List Int) → Prop
  | nil : Line [] []
  | cons {l w t : List Int} {ws : List (List Int)} : Head l w t → Line t ws → Line l (w :: ws)
theorem calls_line : ∀ (f : Nat) (l : List Int) (cs : List (List (List Int))), PyFlat.calls PyRh06.shape f l = some cs → ∃ ws, cs.map PyRh06.whole = ws.map (fun w => [w]) ∧ Line l ws
  | f, [], cs, h => by
    cases f <;> (cases h; exact ⟨[], rfl, .nil⟩)
  | 0, _ :: _, cs, h => by cases h
  | f + 1, p :: r, cs, h => by
    unfold PyFlat.calls at h
    cases e : PyFlat.call PyRh06.shape (p :: r) with
    | none => rw [e] at h; cases h
    | some ct =>
      obtain ⟨c, t⟩ := ct
      rw [e] at h
      try dsimp only at h
      cases e2 : PyFlat.calls PyRh06.shape f t with
      | none => rw [e2] at h; cases h
      | some cs' =>
        rw [e2] at h
        cases h
        obtain ⟨w, h1, h2⟩ := call_head e
        obtain ⟨ws, h3, h4⟩ := calls_line f t cs' e2
        exact ⟨w :: ws, by rw [List.map_cons, List.map_cons, h1, h3], .cons h2 h4⟩
/-- the calls played, one behind another -/
def played : Rh06.St → List (List Int) → List (List Int)
  | _, [] => []
  | s, w :: ws => (Rh06Neutral.step s w).2 :: played (Rh06Neutral.step s w).1 ws
theorem played_eq : ∀ (ws : List (List Int)) (s : Rh06.St), PyFlat.played (fun s c => Rh06Neutral.step s (c.headD [])) s (ws.map fun w => [w]) = played s ws
  | [], _ => rfl
  | w :: ws, s => by
    rw [List.map_cons]
    show (Rh06Neutral.step s w).2 :: PyFlat.played _ (Rh06Neutral.step s w).1 _ = _
    rw [played_eq ws]
    rfl
def toldOf (l : List (List Int)) : List Int := l.flatMap fun a => (a.length : Int) :: a
/-- **what is asked of a line, and what is due** -/
theorem asked_line {l : List Int} (h : PyRh06.answers_asked l = true) : ∃ ws, Line l ws ∧ PyRh06.answers l = toldOf (played Rh06.init ws) ∧ 1 ≤ ws.length ∧ ws.length ≤ 40 ∧ (∀ w ∈ ws, (Rh06Neutral.callOf w).isSome = true) ∧ Rh06Neutral.many Rh06.init ws ≤ 1000000 := by
  unfold PyRh06.answers_asked at h
  cases e : PyFlat.calls PyRh06.shape l.length l with
  | none => rw [e] at h; cases h
  | some cs =>
    rw [e] at h
    try dsimp only at h
    obtain ⟨ws, h1, h2⟩ := calls_line _ _ _ e
    simp only [Bool.and_eq_true] at h
    obtain ⟨⟨⟨⟨g1, g2⟩, g3⟩, g4⟩, g5⟩ := h
    have e2 : (cs.map PyRh06.whole).map (fun c => c.headD []) = ws := by
      rw [h1, List.map_map]
      have : ((fun (c : List (List Int)) => c.headD []) ∘ fun w => [w]) = id := rfl
      rw [this, List.map_id]
    rw [e2] at g4
    unfold Rh06Neutral.asked at g4
    simp only [Bool.and_eq_true, decide_eq_true_eq, List.all_eq_true] at g4
    refine ⟨ws, h2, ?_, g4.2.1, g4.2.2.1, g4.1, g4.2.2.2⟩
    unfold PyRh06.answers PyRh06.calls
    rw [e]
    try dsimp only
    rw [h1]
    show PyFlat.told (PyFlat.played _ Rh06.init _) = _
    rw [played_eq]
    rfl
end Ns

set_option Elab.async false
set_option linter.all false
set_option maxRecDepth 100000
set_option maxHeartbeats 1000000
namespace NsR
open PySem PySem.Spec PyProof.Rows L2 RT
section
variable {prog : Program} {w : World} {A : Around} {E : Value → Shared → Prop} {s : Shared}
/-- the list at S, empty, takes all that the reverse iterator at j has -/
theorem fill_rev {R : Result → Shared → Prop} {j l S : Addr} {vs : Array Value} {k0 : Nat} (calm : A.handled = none) (hj : s.heap.IsRevIter j l ((vs.size : Int) - 1)) (hl : s.heap.IsList l vs) (jl : l ≠ j) (Sj : S ≠ j) (Sl : S ≠ l) (few : vs.size ≤ sizeLine)
    (hS : s.heap.get? S = some { cls := .type "list", data := .seq #[] k0 })
    (fin : ∀ g tk acc c, (∀ b o, b ≠ S → b ≠ j → s.heap.get? b = some o → g.get? b = some o) → g.get? S = some { cls := .type "list", dict := none, data := .seq acc c, slots := #[] } →
      ItemsOf (fun i v => vs[vs.size - 1 - i]? = some v) acc vs.size → R (.ok (.ret .none)) { s with heap := g, toks := tk }) :
    wpAny (model prog w) A.in1 (Builtin.List.listExtendWith (.ref S) (.ref j) .none)
      (fun f s' => match f with | .done x => R (.ok x) s' | .again c' => c'.quiet = true ∧ codeAny (model prog w) A c' R s') (fun e s' => R (.error e) s') s := by
  have ty := hj.typeIs
  have W := (Walks.listRev (prog := prog) (w := w) (A := A.in1) calm j l jl vs).toS
  have outside : S ∉ [j, l] := by simp [Sj, Sl]
  have other : Builtin.List.listSameRef (.ref S) (.ref j) = false := by simp [Builtin.List.listSameRef, Sj]
  unfold Builtin.List.listExtendWith
  refine wpAny_bind (wpAny_typeOf ty ?_); rw [if_neg (by rw [other]; decide)]
  refine wpAny_bind (wpAny_pyIter_revIter hj ?_); refine wpAny_bind (wpAny_holding ?_)
  unfold Builtin.List.listLengthHint
  refine wpAny_bind (wpAny_specialOf ty nolen_lri ?_)
  show wpAny _ _ (specialOf (Value.ref j) (Str.ofString "__length_hint__") >>= _) _ _ _
  refine wpAny_bind (wpAny_specialOf ty hint_lri ?_)
  generalize nm : ("list_reverseiterator.__length_hint__" : String) = nm0
  wp_delta
  rw [show splitId nm0 = some ("list_reverseiterator", "__length_hint__") from by subst nm; decide +kernel]
  subst nm
  refine wpAny_bind (wpAny_isInstance (b := true) ty (by rw [isSubtype_type]; kernel_rfl) ?_); refine wpAny_pure ?_
  rw [if_neg (by decide)]
  have z0 : ((vs.size : Nat) : Int) - 1 - ((0 : Nat) : Int) = (vs.size : Int) - 1 := by omega
  refine wpAny_pure ⟨plainId_quiet F.plain_extend_loop _, codeAny_extend_loopS W few S outside .none vs.size 0 _ #[] k0 rfl (Nat.zero_le _) ⟨Nat.zero_le _, by rw [z0]; exact hj, hl⟩ hS (ItemsOf.nil _) fun s' acc c mv hS' got => ?_⟩
  rw [Moved.eq_with mv]
  refine fin s'.heap s'.toks acc c (fun b o bS bj e => mv.heap b o (fun hm => ?_) e) hS' got
  rcases List.mem_cons.mp hm with q | hm
  · exact bS q
  · exact bj (List.mem_singleton.mp hm)
/-- list(j), j a reverse iterator -/
theorem list_of_rev {Q : Value → Shared → Prop} {j l : Addr} {vs : Array Value} (calm : A.handled = none) (hj : s.heap.IsRevIter j l ((vs.size : Int) - 1)) (hl : s.heap.IsList l vs) (jl : l ≠ j) (few : vs.size ≤ sizeLine)
    (fin : ∀ g tk acc c, (∀ b o, b ≠ j → s.heap.get? b = some o → g.get? b = some o) → g.get? s.heap.objs.size = some { cls := .type "list", dict := none, data := .seq acc c, slots := #[] } →
      ItemsOf (fun i v => vs[vs.size - 1 - i]? = some v) acc vs.size → Q (.ref s.heap.objs.size) { s with heap := g, toks := tk }) :
    wpAny (model prog w) A (call (.type "list") [.ref j]) Q E s := by
  refine callType_codes (Q₁ := fun x s1 => x = .ref s.heap.objs.size ∧ s1 = { s with heap := s.heap.push { cls := .type "list", data := .seq #[] } }) F.called_list (F.typeCall_list_1 _) F.entry_list_init (code_list_new _ ⟨rfl, rfl⟩) ?_
  rintro x s1 ⟨rfl, rfl⟩
  have new : (s.heap.push { cls := .type "list", data := .seq #[] }).get? s.heap.objs.size = some { cls := .type "list", data := .seq #[] } := Heap.get?_push_size _ rfl
  obtain ⟨oj, ej, _⟩ := id hj
  obtain ⟨ol, el, _⟩ := id hl
  have Sj : s.heap.objs.size ≠ j := Nat.ne_of_gt (Heap.lt_size ej)
  have Sl : s.heap.objs.size ≠ l := Nat.ne_of_gt (Heap.lt_size el)
  refine ⟨⟨_, new, rfl⟩, F.args_list_init_2 _ _, ?_⟩
  show wpAny _ _ (do let old ← Builtin.List.listItems (.ref s.heap.objs.size); Builtin.List.listUpdate (.ref s.heap.objs.size) (fun _ => #[]); letGo old.toList.reverse; Builtin.List.listExtendWith (.ref s.heap.objs.size) (.ref j) .none) _ _ _
  refine wpAny_bind ?_; unfold Builtin.List.listItems; refine wpAny_bind (wpAny_seqItems new rfl (wpAny_pure ?_))
  show wpAny _ _ (updateSeq s.heap.objs.size (fun _ => #[]) >>= fun _ => letGo (#[] : Array Value).toList.reverse >>= fun _ => Builtin.List.listExtendWith (.ref s.heap.objs.size) (.ref j) .none) _ _ _
  refine wpAny_bind (wpAny_updateSeq new rfl ?_)
  have new2 := Heap.get?_update_self (Obj.mapSeq (fun _ => (#[] : Array Value))) new rfl
  have old : ∀ b o, s.heap.get? b = some o → ((s.heap.push { cls := .type "list", data := .seq #[] }).update s.heap.objs.size (Obj.mapSeq (fun _ => (#[] : Array Value)))).get? b = some o :=
    fun b o e => (Heap.get?_update_other _ _ (Ne.symm (Nat.ne_of_lt (Heap.lt_size e)))).trans (Heap.get?_push_of_some _ e)
  refine wpAny_bind (wpAny_letGo ?_)
  refine fill_rev (A := A.in1) (s := { s with heap := (s.heap.push { cls := .type "list", data := .seq #[] }).update s.heap.objs.size (Obj.mapSeq (fun _ => (#[] : Array Value))) }) calm (hj.at fun o e => old _ _ e) (hl.at fun o e => old _ _ e) jl Sj Sl few new2 fun g tk acc c hk hS' got => ?_
  exact ⟨rfl, fin g tk acc c (fun b o bj e => hk b o (Nat.ne_of_lt (Heap.lt_size e)) bj (old b o e)) hS' got⟩
end
/-- list(reversed(x)), x a list: a new list, the other way round -/
def tLstRev (K : PySem.W.Frag) (te : TE) : TE := fun σ H Q => te σ H fun v H1 => ∃ (a : Addr) (xs : List V), v = .ref a ∧ SqL K H1 a xs ∧ ∀ q, H1 q = none → Q (.ref q) (upd H1 q (.lst xs.reverse))
theorem pe_lstRev {X : Cx} {e : Expr} {te : TE} {p p2 pos pos2 : Pos} (hc : X.calm = true) (hg : Gl X "list") (hm : X.mg "list" = none) (hg2 : Gl X "reversed") (hm2 : X.mg "reversed" = none) (he : PE X e te)
    (hs : starEach [e] X.env = (false, eval e X.env) :: starEach [] X.env := by rfl) (hs2 : starEach [.Call (.Name "reversed" p2) [e] [] pos2] X.env = (false, eval (.Call (.Name "reversed" p2) [e] [] pos2) X.env) :: starEach [] X.env := by rfl) :
    PE X (.Call (.Name "list" p) [.Call (.Name "reversed" p2) [e] [] pos2] [] pos) (tLstRev X.K te) := by
  refine ⟨fun pins s σ H Q I h => ?_⟩
  refine Call_ (ld_blt I hg hm boot_list (PyProof.Rows.callWith_type1 (args_cons (Call_ (ld_blt I hg2 hm2 PyProof.Rows.boot_reversed (PyProof.Rows.callWith_type1 (args_cons (thn (he.run pins s σ H _ I h) fun u s1 ⟨v, H1, I1, r1, q1⟩ => args_nil ?_) hs) hs rfl))) hs2) hs2 rfl))
  obtain ⟨a, xs, rfl, hq, q⟩ := q1
  obtain rfl : u = Value.ref a := r1
  obtain ⟨its, rv, pl, hz⟩ := I1.list hq
  refine call_reversed_list pl.isList (args_nil ?_)
  have I2 : Inv X pins σ H1 { s1 with heap := s1.heap.push (revObj a ((its.toArray.size : Int) - 1)) } := I1.kept (t' := s1.toks) fun b o e => Heap.get?_push_of_some _ e
  have L := pl.isList
  obtain ⟨ol, el, _⟩ := id L
  have few : its.toArray.size ≤ sizeLine := by rw [List.size_toArray, ← rv.length]; exact hz
  refine list_of_rev (s := { s1 with heap := s1.heap.push (revObj a ((its.toArray.size : Int) - 1)) }) (I1.ok.hd hc) ⟨_, Heap.get?_push_size _ rfl, rfl, rfl⟩ (L.push _) (Nat.ne_of_lt (Heap.lt_size el)) few fun g tk acc c hk hS got => ?_
  have fp : ∀ b ∈ [s1.heap.objs.size], FpOk X pins H1 b := fun b hb => by
    obtain rfl := List.mem_singleton.mp hb
    exact I1.fpOk (Nat.le_refl _) (I1.hok.fresh (Nat.le_refl _))
  refine ⟨.ref _, upd H1 (s1.heap.push (revObj a ((its.toArray.size : Int) - 1))).objs.size (.lst xs.reverse), ?_, rfl, q _ (I2.hok.fresh (Nat.le_refl _))⟩
  refine I2.turnedNew (t' := tk) (ch := [s1.heap.objs.size]) (fun b o hb e => hk b o (fun z => hb (List.mem_singleton.mpr z)) e) fp (Nat.le_refl _) ?_
  exact ⟨by rw [List.length_reverse]; exact hz, acc.toList, c, vals_rev rv got, by rw [Array.toArray_toList]; exact hS⟩
end NsR

set_option Elab.async false
set_option linter.all false
set_option maxRecDepth 100000
set_option maxHeartbeats 1000000
namespace NsR
open PySem PySem.Spec PyProof.Rows L2
/-- a built-in class called with keywords, by a place -/
theorem typed_kw {M : Model} {A : Around} {E : Value → Shared → Prop} {s : Shared} {env : Env} {pos : Pos} {T : String} {e : Expr} {kws : List Keyword} {Q : Value → Shared → Prop}
    (h : wpAny M A (spliced (backTo pos (starEach [e] env))) (fun vs s1 => wpAny M A (evalAll ((backToKw pos (keywordEach kws env)).map (·.2)))
      (fun zs s2 => wpAny M A (call (.type T) vs (((backToKw pos (keywordEach kws env)).filterMap (·.1)).zip zs)) Q E s2) E s1) E s)
    (h1 : backTo pos (starEach [e] env) = (false, eval e env) :: backTo pos (starEach [] env)) (h2 : (backTo pos (starEach [e] env)).any (·.1) = false)
    (h3 : (backToKw pos (keywordEach kws env)).all (·.1.isSome) = true) (h4 : (backToKw pos (keywordEach kws env)).any (·.1.isNone) = false) :
    wpAny M A (callWith pos (.type T) [] (backTo pos (starEach [e] env)) (backToKw pos (keywordEach kws env))) Q E s := by
  have h5 : wpAny M A (evalArgs (.type T) true (backTo pos (starEach [e] env)) (backToKw pos (keywordEach kws env))) (fun a s1 => wpAny M A (call (.type T) ([] ++ a.pos) a.kw) Q E s1) E s := by
    rw [h1] at h ⊢
    exact evalArgs_kwB h3 h
  unfold callWith
  refine wpAny_bind (wpAny_holding (wpAny_mono h5 (fun a s1 k => wpAny_bind (wpAny_standAt ?_)) fun _ _ z => z))
  simp only [h2, h4, Bool.or_false]
  refine wpAny_bind (wpAny_pure (wpAny_bind (wpAny_mono k (fun r s2 hr => wpAny_bind (wpAny_holding (wpAny_point (wpAny_pure hr)))) fun _ _ z => z)))
/-- the list at a as it stands at each turn, each item in a new pair with its number, counted from c0 -/
def ItC (K : PySem.W.Frag) (c0 : Int) (a : Addr) : It where
  go := fun i H => ∃ (xs : List V) (x : V), SqL K H a xs ∧ xs[i]? = some x
  yld := fun i H v H' => ∃ (T : Addr) (x : V), v = V.ref T ∧ H T = none ∧ H' = upd H T (.tup [.int (c0 + (i : Nat)), x]) ∧ ∀ xs, SqL K H a xs → xs[i]? = some x
  stop := fun i H => ∃ xs : List V, SqL K H a xs ∧ xs.length ≤ i
theorem turn_count {P : Program} {w : World} {K : PySem.W.Frag} {elts : List Expr} {kk : Nat} {tpos : Pos} (c0 : Int) (a e it : Addr) :
    Turn P w K (.Tuple elts kk tpos) (ItC K c0 a) [e, it] e (fun i h => (∃ old, IsEnum h e it (c0 + ((i : Nat) : Int)) old) ∧ h.IsListIter it a i ∧ e ≠ it) where
  mem := by simp
  obj := fun i h ⟨⟨old, he⟩, ⟨o, ho, hc, hd⟩, _⟩ b hb => by
    rcases (by simpa using hb : b = e ∨ b = it) with rfl | rfl
    · exact ⟨_, he, fun v q => nomatch q⟩
    · exact ⟨o, ho, fun v q => by rw [hd] at q; cases q⟩
  keep := fun i h h' ⟨⟨old, he⟩, hi, hne⟩ k => ⟨⟨old, k e (by simp) _ he⟩, hi.at fun o q => k it (by simp) o q, hne⟩
  item := by
    rintro X rfl rfl rfl hc i pins s σ H E I hf ⟨⟨old, he⟩, hit, hne⟩ ⟨xs, x, hq, hx⟩
    obtain ⟨its, rv, p, hz⟩ := I.list hq
    obtain ⟨u, hu, ru⟩ := rv.get hx
    have el : e < s.heap.objs.size := Heap.lt_size he
    obtain ⟨oi, ei, ci, _⟩ := id hit
    have il : it < s.heap.objs.size := Heap.lt_size ei
    obtain ⟨ol, eol, col, _⟩ := id p.isList
    have a_it : a ≠ it := by rintro rfl; rw [ei] at eol; cases eol; rw [ci] at col; exact absurd col (by decide)
    have e_a : e ≠ a := by rintro rfl; rw [he] at eol; cases eol; exact absurd (show Value.type "enumerate" = Value.type "list" from col) (by decide)
    have hh : X.A.in1.handled = none := I.ok.hd hc
    have D := Draws.list (prog := X.prog) (w := X.w) (A := X.A.in1) hh it a a_it its.toArray
    have il2 : i < its.toArray.size := by
      have := (List.getElem?_eq_some_iff.mp hu).1
      simpa using this
    refine wpAny_pyNext_enum_itemC D he ⟨hit, p.isList⟩ il2 hne (by simp [hne, e_a]) fun y g tk hy ho hst hT hsz hk => ?_
    have ey : y = u := by
      have : its.toArray[i]? = some u := by simpa using hu
      rw [this] at hy
      exact (Option.some.inj hy).symm
    subst ey
    refine ⟨_, rfl, wpAny_letOwnedTupleGo_enum (s := { s with heap := g, toks := tk + 1 }) ho fun g2 he2 sb => ?_⟩
    have hT2 : g2.get? s.heap.objs.size = some { cls := .type "tuple", data := .seq #[.int (c0 + ((i : Nat) : Int)) tk, y] } := (sb.2 _ (Nat.ne_of_gt el)).trans hT
    have made : ObjOk X.prog X.w (upd H s.heap.objs.size (.tup [.int (c0 + (i : Nat)), x])) g2 s.heap.objs.size (.tup [.int (c0 + (i : Nat)), x]) :=
      ⟨by show 2 ≤ sizeLine; decide, [.int _ tk, y], .cons ⟨_, rfl⟩ (.cons ru .nil), ⟨_, hT2, rfl, _, rfl⟩⟩
    have I1 : Inv X pins σ (upd H s.heap.objs.size (.tup [.int (c0 + (i : Nat)), x])) { s with heap := g2, toks := tk + 1 } := by
      refine I.turnedNew (ch := [e, it]) (fun b ob hb q => ?_) hf (Nat.le_refl _) made
      have be : b ≠ e := fun z => hb (by simp [z])
      have bi : b ≠ it := fun z => hb (by simp [z])
      exact (sb.2 b be).trans (hk b ob be bi q)
    refine ⟨.ref s.heap.objs.size, _, I1, rfl, ⟨_, x, rfl, I.hok.fresh (Nat.le_refl _), rfl, fun ys hy => by rw [I.list_inj hy hq]; exact hx⟩, ⟨⟨y, ?_⟩, hst.1.at fun o q => (sb.2 it (Ne.symm hne)).trans q, hne⟩, fun b hb => ?_⟩
    · have z : c0 + ((i + 1 : Nat) : Int) = c0 + ((i : Nat) : Int) + 1 := by omega
      rw [z]; exact he2
    · have hb' : b < s.heap.objs.size := by
        rcases (by simpa using hb : b = e ∨ b = it) with rfl | rfl
        · exact el
        · exact il
      rw [upd_ne (Nat.ne_of_lt hb')]
      exact (hf b hb).1
  done := by
    rintro X rfl rfl rfl hc i pins s σ H E I hf ⟨⟨old, he⟩, hit, hne⟩ ⟨xs, hq, hx⟩
    obtain ⟨its, rv, p, hz⟩ := I.list hq
    obtain ⟨f0, f1, f2, f3, f4, f5⟩ := hf it (by simp)
    obtain ⟨oi, ei, ci, _⟩ := id hit
    obtain ⟨ol, eol, col, _⟩ := id p.isList
    have a_it : a ≠ it := by rintro rfl; rw [ei] at eol; cases eol; rw [ci] at col; exact absurd col (by decide)
    have hh : X.A.in1.handled = none := I.ok.hd hc
    have hl := rv.length
    -- a list's iterator past its end
    have hT : s.TypeIs (.ref e) "enumerate" := ⟨_, he, rfl⟩
    unfold pyNext
    refine wpAny_bind (wpAny_attempt (wpAny_callSpecial?_slot (name := Str.ofString "__next__") hT F.slot_enumerate_next (wpAny_call_entry F.slot_enumerate_next hT F.entry_enumerate_next ?_ (F.args_enumerate_next_1 _))))
    show wpAny _ _ (field (.ref e) 2 >>= fun y => _) _ _ _
    refine wpAny_bind (wpAny_field he rfl (x := .ref it) rfl (wpAny_bind (wpAny_nextOf_list_end hh hit p.isList (by simp; omega) fun g y eb hy => ?_)))
    obtain ⟨o, ho, hc'⟩ := hy
    exact wpAny_bind (wpAny_isInstance (T := "StopIteration") (b := true) ⟨o, ho, hc'⟩ isSubtype_stop (wpAny_pure ⟨rfl, I.turned (t' := s.toks) (fun b o hb q => eb b o hb q) f0 f1 f3 f4 f5⟩))
  self := fun A i s Q E ⟨⟨_, he⟩, _⟩ h => wpAny_pyIter_enum he h
/-- for i, x in enumerate(xs, start=c) -/
def iCount (K : PySem.W.Frag) (ta tk : TA) : TI := fun σ H R => ta σ H fun vs H1 => tk σ H1 fun zs H2 => ∃ a xs c0, vs = [.ref a] ∧ zs = [.int c0] ∧ (-(2 ^ 63) ≤ c0 ∧ c0 < 2 ^ 63) ∧ SqL K H2 a xs ∧ R (ItC K c0 a) H2
theorem pi_count {X : Cx} {e : Expr} {kws : List Keyword} {ta tk : TA} {p pos tpos : Pos} {elts : List Expr} {kk : Nat} (hg : Gl X "enumerate") (hm : X.mg "enumerate" = none) (ha : PA X [e] ta) (hk : PK X kws tk)
    (h1 : backTo pos (starEach [e] X.env) = (false, eval e X.env) :: backTo pos (starEach [] X.env) := by rfl) (h2 : (backTo pos (starEach [e] X.env)).any (·.1) = false := by rfl)
    (h3 : (backToKw pos (keywordEach kws X.env)).all (·.1.isSome) = true := by rfl) (h4 : (backToKw pos (keywordEach kws X.env)).any (·.1.isNone) = false := by rfl)
    (h5 : (backToKw pos (keywordEach kws X.env)).filterMap (·.1) = [Str.ofString "start"] := by rfl) :
    PI X (.Tuple elts kk tpos) (.Call (.Name "enumerate" p) [e] kws pos) (iCount X.K ta tk) := by
  refine ⟨fun pins s σ H R I h => ?_⟩
  refine wpAny_Call_Name_kw (ld_blt I hg hm boot_enumerate (typed_kw (thn (ha.run pos pins s σ H _ I h) fun us s1 ⟨vs, H1, I1, r1, q1⟩ => thn (hk.run pos pins s1 σ H1 _ I1 q1) fun ws s2 ⟨zs, H2, I2, r2, q2⟩ => ?_) h1 h2 h3 h4))
  rw [h5]
  obtain ⟨a, xs, c0, rfl, rfl, hc, hq, q⟩ := q2
  obtain rfl := Vals.ref1 r1
  obtain ⟨w1, rfl, e1⟩ := vals1 r2
  obtain ⟨t1, rfl⟩ := e1
  obtain ⟨its, rv, pl, hz⟩ := I2.list hq
  refine enum_begins_start (begins_list a its.toArray) pl.isList hc.1 hc.2 fun g he hit hsz hk2 => wpAny_pyIter_enum he ?_
  have z : c0 = c0 + ((0 : Nat) : Int) := by omega
  rw [z] at he
  refine ⟨s2.heap.objs.size + 1, [s2.heap.objs.size + 1, s2.heap.objs.size], _, _, H2, rfl, I2.kept (t' := s2.toks) hk2, turn_count c0 a _ s2.heap.objs.size, ⟨⟨.none, he⟩, ⟨_, hit, rfl, rfl⟩, Nat.succ_ne_self _⟩, fun b hb => ?_, q⟩
  have le : s2.heap.objs.size ≤ b := by
    rcases (by simpa using hb : b = s2.heap.objs.size + 1 ∨ b = s2.heap.objs.size) with z | z
    · rw [z]; exact Nat.le_add_right _ _
    · rw [z]; exact Nat.le_refl _
  exact I2.fpOk le (I2.hok.fresh le)
end NsR

set_option Elab.async false
set_option linter.all false
set_option maxRecDepth 100000
set_option maxHeartbeats 2000000
namespace NsR
open PySem PySem.Spec PyProof.Rows L2
open PySem.W (KeepsBut keyH_end SortsAt AllAlike Sortable dataKind dataLe sorted_of_sort copyHeap copyHeap_at copyHeap_old KeyedOut keyedOut_each EachIs each_snoc)
/-- a key that a def gives: a whole number, or a pair of them -/
def KeyV (H : Hp) (v : V) (d : PyData) : Prop := (∃ n, v = .int n ∧ d = .int n) ∨ ∃ p i j, v = .ref p ∧ H p = some (.tup [.int i, .int j]) ∧ d = .tuple [.int i, .int j]
theorem KeyV.same {H H' : Hp} {v : V} {d : PyData} (e : Same H H') : KeyV H v d → KeyV H' v d
  | .inl h => .inl h
  | .inr ⟨p, i, j, a, b, c⟩ => .inr ⟨p, i, j, a, e _ _ b, c⟩
theorem KeyV.reads {P : Program} {w : World} {H : Hp} {h : Heap} {v : V} {d : PyData} {u : Value} (hok : HOk P w H h) (k : KeyV H v d) (r : RelV v u) : Reads h u d [] := by
  rcases k with ⟨n, rfl, rfl⟩ | ⟨p, i, j, rfl, hp, rfl⟩
  · obtain ⟨t, rfl⟩ := r
    exact .int n t
  · obtain rfl : u = Value.ref p := r
    obtain ⟨_, its, rv, o, ho, hc, n, hd⟩ := hok p _ hp
    obtain ⟨u1, u2, rfl, ⟨t1, rfl⟩, ⟨t2, rfl⟩⟩ := vals2 rv
    exact .tuple (as := [] ++ ([] ++ [])) ho hc hd (.cons (.int i t1) (.cons (.int j t2) .nil))
theorem KeyV.small {H : Hp} {v : V} {d : PyData} (k : KeyV H v d) : d.depth ≤ 1 := by
  rcases k with ⟨n, _, rfl⟩ | ⟨p, i, j, _, _, rfl⟩
  · simp [PyData.depth]
  · simp [PyData.depth, PyData.depthAll]
/-- records of ours have turned; one of them is tracked from now on -/
theorem taken {X : Cx} {pins : List (Addr × Obj)} {σ : L2.St} {H : Hp} {s : Shared} {g : Heap} {tk : Nat} {ch : List Addr} {T : Addr} {ob : HO} (I : Inv X pins σ H s) (hT : T ∈ ch) (kept : ∀ c u, c ∉ ch → s.heap.get? c = some u → g.get? c = some u) (fp : ∀ c ∈ ch, FpOk X pins H c)
    (made : ObjOk X.prog X.w (upd H T ob) g T ob) : Inv X pins σ (upd H T ob) { s with heap := g, toks := tk } := by
  have unT : H T = none := (fp T hT).1
  have apart : ∀ {c : Addr} {u : HO}, H c = some u → c ∉ ch := fun {c u} e m => by have := (fp c m).1; rw [e] at this; cases this
  have still : ∀ {c : Addr} {u : HO}, H c = some u → upd H T ob c = some u := fun {c u} e => (upd_ne (ne_of_none e unT)).trans e
  refine I.step (ch := ch) ?own ?keep ?slot ?free ?there ?tups ?frzs ?tbls ?ns ?hok I.bare
  case own => exact fun c m => let ⟨_, f1, _, f3, f4, f5⟩ := fp c m; ⟨f3, f1, f4, f5⟩
  case keep => exact fun c u _ _ m e _ => kept c u m e
  case slot => exact fun c u _ _ m e _ => ⟨_, kept c u m e⟩
  case free => exact fun c u m e n => (upd_ne (fun z : c = T => m (z ▸ hT))).trans n
  case there => exact fun c u m e => ⟨u, kept c u m e⟩
  case tups => exact fun c xs e => still e
  case frzs => exact fun c u v e => still e
  case tbls => exact fun c ps e => ⟨#[], (still e).trans (by simp)⟩
  case ns => exact fun m ⟨u, es, ep, e, q⟩ => ⟨u, es, ep, kept _ u (fun z => (fp _ z).2.1 rfl) e, q⟩
  case hok =>
    intro c u e
    rcases Classical.em (c = T) with z | z
    · subst z; cases (upd_same.symm.trans e); exact made
    · have e' : H c = some u := (upd_ne z).symm.trans e
      exact (I.hok c u e').stay (fun v w hv q => kept v w (hv.elim (fun y => by rw [y]; exact apart e') fun y => apart y) q) (fun _ q => still q) fun _ _ q => still q
theorem each_of_vals : ∀ {xs : List V} {us : List Value}, Vals xs us → PySem.W.EachIs (fun u x => RelV x u) us xs
  | _, _, .nil => .nil
  | _, _, .cons r t => .cons r (each_of_vals t)
theorem vals_of_each : ∀ {us : List Value} {xs : List V}, PySem.W.EachIs (fun u x => RelV x u) us xs → Vals xs us
  | _, _, .nil => .nil
  | _, _, .cons r t => .cons r (vals_of_each t)
/-- sorted(xs, key=f), f a def of the program's own that lets nothing out -/
def rSortBy (K : PySem.W.Frag) (f : Addr) (sp : Sp) : List V → List V → Hp → VK → Prop := fun vs zs H Q => ∃ (a : Addr) (xs : List V) (k : V → PyData), vs = [.ref a] ∧ zs = [.ref f] ∧ SqL K H a xs ∧ AllAlike (xs.map k) ∧ Sortable (xs.map k) ∧
  (∀ x ∈ xs, ∀ H1, Same H H1 → sp [x] H1 (fun v H2 => Same H1 H2 ∧ KeyV H2 v (k x)) (fun _ _ _ => True)) ∧
  ∀ (H2 : Hp) (p : Addr), Same H H2 → H2 p = none → Q (.ref p) (upd H2 p (.lst (xs.mergeSort (dataLe false k))))
theorem cr_sortBy {X : Cx} {k0 : Nat} {f : Addr} {fd : FuncData} {ps : List Str} {sp : Sp} (F : FnOk X.prog X.w X.K X.mg X.base CX0 k0 f fd ps sp) (hr : Room (k0 + 2) X.A) (hb : Binds X.K fd ps []) :
    CallRK X (.builtin "sorted") [Str.ofString "key"] (rSortBy X.K f sp) := by
  intro pins s σ H vs zs us ws Q I r rz h
  obtain ⟨l, xs, k, rfl, rfl, hs, hal, hsk, turn, q⟩ := h
  obtain rfl := Vals.ref1 r
  obtain rfl := Vals.ref1 rz
  obtain ⟨its, rv, pl, hz⟩ := I.list hs
  have hlen := rv.length
  have hL : its.length ≤ sizeLine := by rw [← hlen]; exact hz
  refine sorted_of_sort pl.isList hL (ksk_s1 _ _) (fun _ => ksk_l1 _ _) fun E' => ?_
  show wpAny _ _ (Builtin.«list.sort» ⟨[.ref (s.heap.objs.size + 1)], [(Str.ofString "key", .ref f)]⟩) _ _ _
  rw [ksk_t1]
  generalize hcp : s.heap.objs.size + 1 = cp
  have at0 : (copyHeap s.heap its).get? cp = some (seqObj "list" its.toArray 0) := by rw [← hcp]; exact copyHeap_at s.heap its
  obtain ⟨e1, at1⟩ : ∃ e1, ((copyHeap s.heap its).update cp (Obj.mapSeq fun _ => (#[] : Array Value))).get? cp = some (seqObj "list" #[] e1) := ⟨_, get?_update_seq at0 fun _ => #[]⟩
  have sz0 : cp < (copyHeap s.heap its).objs.size := Heap.lt_size at0
  have lcp : s.heap.objs.size ≤ cp := by rw [← hcp]; exact Nat.le_succ _
  unfold ksk_tree
  refine wpAny_bind (listItems_at at0 rfl (wpAny_bind (listUpdate_at at0 rfl (wpAny_bind (seqEpoch_at at1 rfl (wpAny_bind (wpAny_newTuple (wpAny_bind (wpAny_newList (wpAny_holding ?_) (Nat.zero_le _))) (by show its.length ≤ _; exact hL))))) (by rw [List.size_toArray]; exact hL) (Nat.zero_le _))))
  generalize hg : ((copyHeap s.heap its).update cp (Obj.mapSeq fun _ => (#[] : Array Value))).push { cls := .type "tuple", data := .seq its.toArray.toList.toArray } = g1
  have szg : g1.objs.size = (copyHeap s.heap its).objs.size + 1 := by rw [← hg, size_push', Heap.size_update]
  have atg : g1.get? cp = some (seqObj "list" #[] e1) := by rw [← hg]; exact Heap.get?_push_of_some _ at1
  have oldg : ∀ b o, s.heap.get? b = some o → g1.get? b = some o := fun b o e => by
    have bc : b ≠ cp := Nat.ne_of_lt (Nat.lt_of_lt_of_le (Heap.lt_size e) lcp)
    rw [← hg]
    exact Heap.get?_push_of_some _ ((Heap.get?_update_other _ _ (Ne.symm bc)).trans (copyHeap_old e))
  generalize hkS : g1.objs.size = kS
  have ckS : cp < kS := by rw [← hkS, szg]; exact Nat.lt_succ_of_lt sz0
  have lkS : s.heap.objs.size ≤ kS := Nat.le_trans lcp (Nat.le_of_lt ckS)
  -- what holds between two turns
  have pinned : ∀ {H1 : Hp} {s1 : Shared} {kA : Array Value} {e : Nat}, Inv X pins σ H1 s1 → H1 kS = none → H1 cp = none → s1.heap.get? kS = some (seqObj "list" kA e) → s1.heap.get? cp = some (seqObj "list" #[] e1) →
      Inv X (pins ++ [(kS, seqObj "list" kA e), (cp, seqObj "list" #[] e1)]) σ H1 s1 := fun {H1 s1 kA e} I1 n1 n2 a1 a2 => I1.pins_of fun p hp => by
    rcases List.mem_append.mp hp with hp | hp
    · exact I1.pin p (List.mem_append_right _ hp)
    · rcases List.mem_cons.mp hp with rfl | hp
      · exact ⟨a1, n1, Nat.ne_of_gt (Nat.lt_of_lt_of_le I.lt lkS), I.nofs lkS, fun v z => nomatch z⟩
      · obtain rfl := List.mem_singleton.mp hp
        exact ⟨a2, n2, Nat.ne_of_gt (Nat.lt_of_lt_of_le I.lt lcp), I.nofs lcp, fun v z => nomatch z⟩
  have bare : ∀ {H1 : Hp} {s1 : Shared} {kA : Array Value} {e : Nat}, Inv X (pins ++ [(kS, seqObj "list" kA e), (cp, seqObj "list" #[] e1)]) σ H1 s1 → Inv X pins σ H1 s1 ∧ H1 kS = none ∧ H1 cp = none ∧ s1.heap.get? kS = some (seqObj "list" kA e) ∧ s1.heap.get? cp = some (seqObj "list" #[] e1) := fun {H1 s1 kA e} I1 => by
    have p1 := I1.pin (kS, seqObj "list" kA e) (List.mem_append_right _ (List.mem_append_right _ (by simp)))
    have p2 := I1.pin (cp, seqObj "list" #[] e1) (List.mem_append_right _ (List.mem_append_right _ (by simp)))
    exact ⟨I1.pins_of fun p hp => I1.pin p (List.mem_append_right _ (List.mem_append_left _ hp)), p1.2.1, p2.2.1, p1.1, p2.1⟩
  unfold ksk_rest
  refine wpAny_bind (wpAny_rule ?_)
  first
    | rw [List.forIn_toArray]
    | (rw [← Array.forIn_toList]; simp only [List.toList_toArray])
    | rw [← Array.forIn_toList]
  refine wpAny_bind (ksk_fold (fun i s1 => ∃ H1 kA e, Same H H1 ∧ Inv X (pins ++ [(kS, seqObj "list" kA e), (cp, seqObj "list" #[] e1)]) σ H1 s1 ∧ EachIs (fun u x => ∃ v, RelV v u ∧ KeyV H1 v (k x)) kA.toList (xs.take i)) its 0 _ ?start ?step ?done)
  case start =>
    refine ⟨H, #[], 0, Same.refl H, pinned (I.kept (t' := s.toks) fun b o e => Heap.get?_push_of_some _ (oldg b o e)) (I.hok.fresh lkS) (I.hok.fresh lcp) ?_ (Heap.get?_push_of_some _ atg), ?_⟩
    · rw [← hkS]; exact Heap.get?_push_size _ rfl
    · rw [List.take_zero]; exact .nil
  case step =>
    rintro j u s1 hu ⟨H1, kA, e, sm, I1, ek⟩
    simp only [Nat.zero_add] at ek ⊢
    have jl : j < its.length := (List.getElem?_eq_some_iff.mp hu).1
    obtain ⟨x, hx⟩ : ∃ x, xs[j]? = some x := ⟨_, List.getElem?_eq_getElem (by omega)⟩
    obtain ⟨u', hu', rx⟩ := rv.get hx
    rw [hu] at hu'
    cases hu'
    have few : kA.size ≤ sizeLine := by
      have := ek.length
      rw [Array.length_toList, List.length_take] at this
      omega
    have kin : Env0 X.prog X.w X.K X.mg X.base X.A.in1.in1 X.stack s1 H1 := I1.env0.in1.in1
    have sp1 := turn x (List.mem_of_getElem? hx) H1 sm
    have hl1 : [u].length = ps.length := F.len _ _ _ _ sp1
    have b1 := hb s1 [u] I1.kIn (by rw [List.append_nil]; exact hl1)
    rw [List.append_nil] at b1
    have run := F.run X.A.in1.in1 X.stack s1 H1 ⟨[u], []⟩ [u] [x] _ _ hr.in1.in1 kin b1 (.cons rx .nil) sp1
    have called : wpAny (model X.prog X.w) X.A.in1.in1 (call (.ref f) [u]) (EP X (pins ++ [(kS, seqObj "list" kA e), (cp, seqObj "list" #[] e1)]) σ (fun v H2 => Same H1 H2 ∧ KeyV H2 v (k x))) (fun _ _ => False) s1 :=
      wpAny_call (codeAny_mono run fun r s2 hq => by
        cases r with
        | error e => exact hq
        | ok fl => cases fl with
          | ret u2 => exact I1.after hq
          | next => exact hq.elim
          | brk => exact hq.elim
          | cont => exact hq.elim)
    refine wpAny_bind (wpAny_attempt (wpAny_mono called (fun uk s2 hq => ?_) fun _ _ z => z.elim))
    obtain ⟨v, H2, I2, rv2, sm2, kv⟩ := hq
    obtain ⟨I3, n1, n2, a1, a2⟩ := bare I2
    try dsimp only
    obtain ⟨c2, hc2⟩ : ∃ c2, (s2.heap.update kS (Obj.mapSeq (·.push uk))).get? kS = some (seqObj "list" (kA.push uk) c2) := ⟨_, get?_update_seq a1 (·.push uk)⟩
    have sb := Heap.SameBut.update s2.heap kS (Obj.mapSeq (·.push uk))
    refine wpAny_bind (listUpdate_at a1 rfl (wpAny_pure ⟨rfl, H2, kA.push uk, c2, sm.trans sm2, ?_, ?_⟩) few (by rw [Array.size_push]; omega))
    · refine pinned (I3.turnedL (t' := s2.toks) (ch := [kS]) (fun b o hb q => (sb.2 b (fun z => hb (by simp [z]))).trans q) fun b hb => ?_) n1 n2 hc2 ((sb.2 cp (Nat.ne_of_lt ckS)).trans a2)
      obtain rfl := List.mem_singleton.mp hb
      exact I.fpOk lkS n1
    · have ek2 : xs.take (j + 1) = xs.take j ++ [x] := by rw [List.take_add_one, hx]; simp
      have ea : (kA.push uk).toList = kA.toList ++ [uk] := by simp
      rw [ek2, ea]
      exact each_snoc (R := fun (u : Value) (x : V) => ∃ v, RelV v u ∧ KeyV H2 v (k x)) ⟨v, rv2, kv⟩ (ek.mono fun u x ⟨v, r, kk⟩ => ⟨v, r, kk.same sm2⟩)
  case done =>
    rintro s1 ⟨H1, kA, e, sm, I1, ek⟩
    have full : xs.take (0 + its.length) = xs := List.take_of_length_le (by omega)
    rw [full] at ek
    obtain ⟨I2, n1, n2, a1, a2⟩ := bare I1
    refine wpAny_bind (listItems_at a1 rfl ?_)
    obtain ⟨G, g2, g3⟩ := restrict s1.heap fun b => decide (b ≠ kS)
    have back : ∀ b o, G.get? b = some o → s1.heap.get? b = some o := fun b o q => by
      by_cases hb : b = kS
      · rw [hb, g3 kS (by simp)] at q; cases q
      · rw [← g2 b (by simp [hb])]; exact q
    have hkl : kA.size = its.length := by
      have := ek.length
      rw [Array.length_toList] at this
      omega
    have rd : EachIs (fun u d => ∃ as, Reads s1.heap u d as) kA.toList (xs.map k) := PySem.W.each_map k (ek.mono fun u x ⟨v, r, kk⟩ => ⟨[], kk.reads I1.hok r⟩)
    have small : ∀ d, d ∈ xs.map k → X.A.in1.in1.units + d.depth < cLine := fun d hd => by
      obtain ⟨x, hx, rfl⟩ := List.mem_map.mp hd
      have w1 : X.A.in1.in1.units = X.A.units + 2 := rfl
      have w2 := hr.un
      have w3 : (k x).depth ≤ 1 := by
        obtain ⟨j, hj⟩ := List.getElem?_of_mem hx
        have jl : j < kA.toList.length := by rw [ek.length]; exact (List.getElem?_eq_some_iff.mp hj).1
        have := ek.zip (kA.toList[j], x) (List.mem_of_getElem? (i := j) (by rw [List.getElem?_zip_eq_some]; exact ⟨List.getElem?_eq_getElem jl, hj⟩))
        obtain ⟨v, _, kk⟩ := this
        exact kk.small
      omega
    refine keyH_end (κ := dataKind s1.heap (xs.map k)) (h₁ := G) (fun b o _ q => back b o q) (g3 kS (by simp)) a1 a2 (Nat.ne_of_gt ckS) (SortsAt.data rd hal hsk small) hkl hL fun h3 tk3 c kb a3 => ⟨rfl, ?_⟩
    have srt := keyedOut_each (rev := false) k ⟨s1.heap, kA.toList, hal, rfl, rd⟩ (each_of_vals rv)
    have hv := vals_of_each srt
    refine ⟨.ref cp, upd H1 cp (.lst (xs.mergeSort (dataLe false k))), taken (tk := tk3) (ch := [cp, kS]) I2 (by simp) (fun b o hb q => ?_) (fun b hb => ?_) ⟨?_, _, c, hv, a3⟩, rfl, q H1 cp sm n2⟩
    · have b1 : b ≠ cp := fun z => hb (by simp [z])
      have b2 : b ≠ kS := fun z => hb (by simp [z])
      exact kb b o b1 ((g2 b (by simp [b2])).trans q)
    · rcases (by simpa using hb : b = cp ∨ b = kS) with rfl | rfl
      · exact I.fpOk lcp n2
      · exact I.fpOk lkS n1
    · rw [List.length_mergeSort]; exact hz
end NsR

set_option Elab.async false
set_option linter.all false
set_option maxRecDepth 100000
set_option maxHeartbeats 2000000
namespace NsR
open PySem PySem.Spec PyProof.Rows L2
/-- a list takes what a tuple has -/
theorem takes_tuple (p : Addr) (mine : Array Value) (c : Nat) (q : Addr) (more : Array Value) (few : mine.size + more.size ≤ sizeLine) :
    Meets (Builtin.«list.extend» ⟨[.ref p, .ref q], []⟩) fun _ R s => s.heap.get? p = some { cls := .type "list", dict := none, data := .seq mine c, slots := #[] } ∧ IsTup s.heap q more ∧ R (.ok (.ret Value.none)) { s with heap := s.heap.update p (Obj.mapSeq (· ++ more)), toks := s.toks } :=
  .of_wp fun prog w A R s k => by
    obtain ⟨at_p, ⟨o, at_q, is_t, c2, has⟩, k⟩ := k
    have long : ¬ (!mine.isEmpty && Builtin.List.listTooLong (mine.size + more.size)) = true := by
      rw [notLongL few, Bool.and_false]
      exact Bool.false_ne_true
    obtain ⟨cl, dc, dt, sl⟩ := o
    simp only at is_t has
    subst is_t has
    obtain ⟨hp, g, d, tk, os⟩ := s
    have f1 := sub_tuple_tuple
    have f2 := sub_list_list
    have f3 := sub_tuple_list
    have f4 := sub_list_tuple
    have one : mine.size ≤ sizeLine := by omega
    have two : (mine ++ more).size ≤ sizeLine + 1 := by rw [Array.size_append]; omega
    wp_walk using (wpAny_updateSeq at_p rfl (hz := one) (_hz' := two)), wpAny_loadPart' at_p, wpAny_loadPart' at_q
    exact ⟨_, rfl, k⟩
/-- xs.extend(t), t a tuple -/
def rExtT : V → List V → Hp → VK → Prop := fun x vs H Q => ∃ (p q : Addr) (xs ys : List V), x = .ref p ∧ vs = [.ref q] ∧ H p = some (.lst xs) ∧ H q = some (.tup ys) ∧ xs.length + ys.length ≤ sizeLine ∧ Q .non (upd H p (.lst (xs ++ ys)))
theorem mt_extT {X : Cx} : MtM X "list.extend" rExtT := by
  rintro pins s σ H _ _ u us Q I r1 r2 ⟨p, q, xs, ys, rfl, rfl, hp, hq, few, k⟩
  obtain rfl : u = Value.ref p := r1
  obtain ⟨u2, rfl, r3⟩ := r2.one
  obtain rfl : u2 = Value.ref q := r3
  obtain ⟨_, its, c, rv, le, at_p⟩ := I.lstM hp
  obtain ⟨_, its2, rv2, at_q⟩ := I.hok q _ hq
  have le2 := rv2.length
  refine call_meets F.slot_list_extend ⟨_, at_p, rfl⟩ F.entry_list_extend (F.args_list_extend_2 _ _) (takes_tuple p its.toArray c q its2.toArray (by rw [List.size_toArray, List.size_toArray]; omega)) ⟨at_p, at_q, ?_⟩
  exact ⟨.non, _, I.lset (its' := its ++ its2) hp at_p (by simp) (rv.append rv2) (by rw [List.length_append]; exact few), rfl, k⟩
end NsR

set_option Elab.async false
set_option linter.all false
set_option maxRecDepth 100000
set_option maxHeartbeats 2000000
/-! How stretches lie in the heap, and what is evaluated to them. -/
namespace Nr
open PySem PySem.Spec PyProof.Rows L2 Evl
open Rh06 (Stretch)
/-- the pair (begin, end) -/
def IsSt (H : Hp) (v : V) (s : Stretch) : Prop := ∃ t, v = .ref t ∧ H t = some (.tup [.int (s.1 : Int), .int (s.2 : Int)])
def Sts (H : Hp) : List V → List Stretch → Prop := Paired (IsSt H)
theorem IsSt.ex {H H' : Hp} {v : V} {s : Stretch} (e : Ex H H') : IsSt H v s → IsSt H' v s := fun ⟨t, a, b⟩ => ⟨t, a, e _ _ b⟩
theorem IsSt.inj {H : Hp} {v : V} {s r : Stretch} : IsSt H v s → IsSt H v r → s = r := fun ⟨t, a, b⟩ ⟨t', a', b'⟩ => by
  rw [a] at a'
  cases a'
  rw [b] at b'
  injection b' with h
  injection h with h
  injection h with h1 h2
  injection h2 with h2 _
  injection h1 with h1
  injection h2 with h2
  exact Prod.ext (by omega) (by omega)
theorem Sts.ex {H H' : Hp} (e : Ex H H') : ∀ {xs : List V} {l : List Stretch}, Sts H xs l → Sts H' xs l
  | _, _, .nil => .nil
  | _, _, .cons a t => .cons (a.ex e) (Sts.ex e t)
theorem Sts.len {H : Hp} : ∀ {xs : List V} {l : List Stretch}, Sts H xs l → xs.length = l.length
  | _, _, .nil => rfl
  | _, _, .cons a t => congrArg (· + 1) (Sts.len t)
theorem Sts.get {H : Hp} : ∀ {xs : List V} {l : List Stretch} {i : Nat} {x : V}, Sts H xs l → xs[i]? = some x → ∃ s, l[i]? = some s ∧ IsSt H x s
  | _, _, i, x, .nil, h => by simp at h
  | _, _, 0, x, .cons a t, h => by
    have e := Option.some.inj h
    subst e
    exact ⟨_, rfl, a⟩
  | _, _, i + 1, x, .cons a t, h => Sts.get (i := i) t h
theorem Sts.got {H : Hp} : ∀ {xs : List V} {l : List Stretch} {i : Nat} {s : Stretch}, Sts H xs l → l[i]? = some s → ∃ x, xs[i]? = some x ∧ IsSt H x s
  | _, _, i, x, .nil, h => by simp at h
  | _, _, 0, x, .cons a t, h => by
    have e := Option.some.inj h
    subst e
    exact ⟨_, rfl, a⟩
  | _, _, i + 1, x, .cons a t, h => Sts.got (i := i) t h
theorem Sts.mem {H : Hp} {xs : List V} {l : List Stretch} (h : Sts H xs l) {x : V} (m : x ∈ xs) : ∃ s, s ∈ l ∧ IsSt H x s := by
  obtain ⟨i, hi⟩ := List.getElem?_of_mem m
  obtain ⟨s, hs, k⟩ := h.get hi
  exact ⟨s, List.mem_of_getElem? hs, k⟩
theorem Sts.app {H : Hp} : ∀ {xs ys : List V} {l r : List Stretch}, Sts H xs l → Sts H ys r → Sts H (xs ++ ys) (l ++ r)
  | _, _, _, _, .nil, s => s
  | _, _, _, _, .cons a t, s => .cons a (Sts.app t s)
theorem Sts.rev {H : Hp} : ∀ {xs : List V} {l : List Stretch}, Sts H xs l → Sts H xs.reverse l.reverse
  | _, _, .nil => .nil
  | _, _, .cons a t => by
    rw [List.reverse_cons, List.reverse_cons]
    exact Sts.app (Sts.rev t) (.cons a .nil)
theorem Sts.last {H : Hp} : ∀ {xs : List V} {l : List Stretch} {y : Stretch}, Sts H xs (l ++ [y]) → ∃ ks z, IsSt H z y ∧ xs = ks ++ [z]
  | _, [], y, .cons a .nil => ⟨[], _, a, rfl⟩
  | _, s :: l, y, .cons a t => by
    obtain ⟨ks, z, h, e⟩ := Sts.last (l := l) t
    exact ⟨_ :: ks, z, h, by rw [e]; rfl⟩
/-- a list is changed: stretches stand -/
theorem IsSt.upd {H : Hp} {v : V} {s : Stretch} {p : Addr} {o : HO} {ks : List V} : IsSt H v s → H p = some (.lst ks) → IsSt (L2.upd H p o) v s := fun ⟨t, a, b⟩ hp => ⟨t, a, by
  rw [upd_ne (ne_of b hp (by intro z; cases z))]
  exact b⟩
theorem Sts.upd {H : Hp} {p : Addr} {o : HO} {ks : List V} : ∀ {xs : List V} {l : List Stretch}, Sts H xs l → H p = some (.lst ks) → Sts (L2.upd H p o) xs l
  | _, _, .nil, _ => .nil
  | _, _, .cons a t, h => .cons (a.upd h) (Sts.upd t h)
/-- what stands there, read -/
def rd (H : Hp) : V → Stretch
  | .ref t => match H t with
    | some (.tup [.int a, .int b]) => (a.toNat, b.toNat)
    | _ => (0, 0)
  | _ => (0, 0)
theorem IsSt.rd {H : Hp} {v : V} {s : Stretch} : IsSt H v s → rd H v = s := fun ⟨t, a, b⟩ => by
  subst a
  unfold Nr.rd
  simp only [b]
  exact Prod.ext (by simp) (by simp)
theorem Sts.rd {H : Hp} : ∀ {xs : List V} {l : List Stretch}, Sts H xs l → xs.map (Nr.rd H) = l
  | _, _, .nil => rfl
  | _, _, .cons a t => by rw [List.map_cons, a.rd, Sts.rd t]
theorem sts_of {H : Hp} : ∀ {xs : List V}, (∀ x ∈ xs, ∃ s, IsSt H x s) → Sts H xs (xs.map (rd H))
  | [], _ => .nil
  | x :: xs, h => by
    obtain ⟨s, k⟩ := h x (List.mem_cons_self ..)
    refine .cons ?_ (sts_of fun y m => h y (List.mem_cons_of_mem _ m))
    show IsSt H x (rd H x)
    rw [k.rd]
    exact k
/-- a list of stretches is to be read at a -/
def LAt (K : PySem.W.Frag) (H : Hp) (a : Addr) (l : List Stretch) : Prop := ∃ xs, SqL K H a xs ∧ Sts H xs l
theorem LAt.ex {K : PySem.W.Frag} {H H' : Hp} {a : Addr} {l : List Stretch} (e : Ex H H') : LAt K H a l → LAt K H' a l := fun ⟨xs, h, s⟩ => ⟨xs, ex_l e h, s.ex e⟩
/-- a new list of stretches is given back -/
def RetS (l : List Stretch) (H : Hp) (Q : VK) : Prop := ∀ p xs H2, H p = none → Ex H H2 → H2 p = some (.lst xs) → Sts H2 xs l → Q (.ref p) H2
/-- what evaluates to a new list of stretches -/
def EvS (te : TE) (σ : L2.St) (H : Hp) (l : List Stretch) : Prop := ∀ H1, Ex H H1 → ∀ Q : VK, RetS l H1 Q → te σ H1 Q
def SpS (sp : Sp) (vs : List V) (H : Hp) (l : List Stretch) : Prop := ∀ H1, Ex H H1 → ∀ Q : VK, RetS l H1 Q → ∀ E : XK, sp vs H1 Q E
section
variable {K : PySem.W.Frag} {σ : L2.St} {H H' : Hp} {ta tb te tx : TE} {x y z v : V} {s : Stretch} {l : List Stretch} {D : Ends}
theorem EvS.mono (e : Ex H H') (h : EvS te σ H l) : EvS te σ H' l := fun H1 a Q q => h H1 (e.trans a) Q q
theorem es_call {sp : Sp} {dvs vs : List V} {E : XK} {ta : TA} (h : EvA ta σ H vs) (hs : SpS sp (vs ++ dvs) H l) : EvS (tCall sp dvs E ta) σ H l := fun H1 e Q q =>
  h H1 e _ fun H2 e2 => hs H2 (e.trans e2) Q (fun p xs H3 hp e3 h3 k => q p xs H3 (fresh_back e2 hp) (e2.trans e3) h3 k) E
theorem s_retS (h : EvS te σ H l) (k : RetS l H D.rt) : tRet te D σ H := h H (Ex.refl H) _ k
theorem s_asgS {i : Nat} (h : EvS te σ H l) (k : ∀ p xs H1, H p = none → Ex H H1 → H1 p = some (.lst xs) → Sts H1 xs l → D.nx (σ.set i (some (.ref p))) H1) : tAsg te (gName i) D σ H := h H (Ex.refl H) _ fun p xs H1 a b c d => k p xs H1 a b c d
theorem ev_st0 (h : Ev te σ H v) (hs : IsSt H v s) : Ev (tOp (rIxT K) te (tC (.int 0))) σ H (.int (s.1 : Int)) := by
  obtain ⟨t, rfl, ht⟩ := hs
  exact ev_op h ev_c (rv_ixT (st_of ht) (atI_nat (j := 0) rfl))
theorem ev_st1 (h : Ev te σ H v) (hs : IsSt H v s) : Ev (tOp (rIxT K) te (tC (.int 1))) σ H (.int (s.2 : Int)) := by
  obtain ⟨t, rfl, ht⟩ := hs
  exact ev_op h ev_c (rv_ixT (st_of ht) (atI_nat (j := 1) rfl))
/-- sorted(xs, key=f) -/
theorem el_sortBy {ta tf : TE} {sp : Sp} {f a : Addr} {xs : List V} {k : V → PyData} (ha : Ev ta σ H (.ref a)) (hf : Ev tf σ H (.ref f)) (hx : SqL K H a xs) (al : PySem.W.AllAlike (xs.map k)) (so : PySem.W.Sortable (xs.map k))
    (turn : ∀ x ∈ xs, ∀ H1, Ex H H1 → sp [x] H1 (fun v H2 => Same H1 H2 ∧ NsR.KeyV H2 v (k x)) (fun _ _ _ => True)) : EvL (tCKw (NsR.rSortBy K f sp) (tCons ta tNil) (tCons tf tNil)) σ H (xs.mergeSort (PySem.W.dataLe false k)) := fun H1 e Q q =>
  ha H1 e _ fun H2 e2 => hf H2 (e.trans e2) _ fun H3 e3 => ⟨a, xs, k, rfl, rfl, ex_l ((e.trans e2).trans e3) hx, al, so, fun x m H4 e4 => turn x m H4 (((e.trans e2).trans e3).trans e4), fun H4 p e4 hp =>
    q p _ (fresh_back ((e2.trans e3).trans e4) hp) (((e2.trans e3).trans e4).trans (Ex.new hp)) upd_same⟩
/-- by the begin from the back, then by the end -/
def backKey (H : Hp) (v : V) : PyData := .tuple [.int (-((rd H v).1 : Int)), .int ((rd H v).2 : Int)]
theorem back_alike (H : Hp) (xs : List V) : PySem.W.AllAlike (xs.map (backKey H)) := PySem.W.AllAlike.of fun b b' => by
  show PySem.W.alike (.tuple (([-((rd H b).1 : Int), ((rd H b).2 : Int)] : List Int).map .int)) (.tuple (([-((rd H b').1 : Int), ((rd H b').2 : Int)] : List Int).map .int)) = true
  rw [PySem.W.alike]
  exact PySem.W.alike_ints _ _
theorem back_sortable (H : Hp) (xs : List V) : PySem.W.Sortable (xs.map (backKey H)) := PySem.W.Sortable.tuples fun b => ⟨_, _, rfl⟩
theorem back_order (H : Hp) (xs : List V) : ((xs.mergeSort (PySem.W.dataLe false (backKey H))).map (rd H)).Pairwise Ns.Back ∧ ((xs.mergeSort (PySem.W.dataLe false (backKey H))).map (rd H)).Perm (xs.map (rd H)) := by
  have e : PySem.W.dataLe false (backKey H) = fun p q => decide (-((rd H p).1 : Int) < -((rd H q).1 : Int) ∨ (-((rd H p).1 : Int) = -((rd H q).1 : Int) ∧ ((rd H p).2 : Int) ≤ ((rd H q).2 : Int))) := PySem.W.dataLe_ii _ _
  refine ⟨?_, (List.mergeSort_perm _ _).map _⟩
  rw [List.pairwise_map, e]
  refine (List.pairwise_mergeSort (fun a b c h1 h2 => ?_) (fun a b => ?_) xs).imp fun {a b} h => ?_
  · simp only [decide_eq_true_eq] at h1 h2 ⊢
    omega
  · simp only [Bool.or_eq_true, decide_eq_true_eq]
    omega
  · simp only [decide_eq_true_eq] at h
    unfold Ns.Back
    omega
theorem s_retRev {a : Addr} {xs : List V} {l : List Stretch} (h : Ev te σ H (.ref a)) (hx : SqL K H a xs) (hs : Sts H xs l) (k : RetS l.reverse H D.rt) : tRet (NsR.tLstRev K te) D σ H := h H (Ex.refl H) _ fun H1 e1 => ⟨a, xs, rfl, ex_l e1 hx, fun p hp =>
  k p xs.reverse _ (fresh_back e1 hp) (e1.trans (Ex.new hp)) upd_same ((hs.ex (e1.trans (Ex.new hp))).rev)⟩
theorem et_truL {a : Addr} {xs : List V} (h : Ev te σ H (.ref a)) (hx : SqL K H a xs) : EvT (fun σ H Q => te σ H fun x H' => ∃ k, TruV K x H' k ∧ Q k H') σ H (!xs.isEmpty) := fun H1 e Q q =>
  h H1 e _ fun H2 e2 => ⟨_, Or.inl ⟨xs, ex_l (e.trans e2) hx, rfl⟩, q H2 e2⟩
end
end Nr

/-! The text by places: what is to be changed when the program changes. -/
namespace Nr
open PySem L2
def top (i : Nat) : Stmt := PySem.Challenge.pw_nearstretches_s01_answers.main.body.getD i (.Pass ⟨0, 0, 0, 0⟩)
abbrev sWidth : Stmt := top 21
abbrev sLies : Stmt := top 22
abbrev sShare : Stmt := top 23
abbrev sBack : Stmt := top 24
abbrev sLeast : Stmt := top 25
abbrev sFirstFrom : Stmt := top 26
abbrev sLastBy : Stmt := top 27
abbrev sPlaces : Stmt := top 28
abbrev sEither : Stmt := top 29
abbrev sOrder : Stmt := top 30
abbrev sBoth : Stmt := top 31
abbrev sNext : Stmt := top 32
abbrev sLiesSome : Stmt := top 33
abbrev sHoldsSome : Stmt := top 34
abbrev sMeetsSome : Stmt := top 35
abbrev sInside : Stmt := top 36
abbrev sAround : Stmt := top 37
abbrev sApart : Stmt := top 38
abbrev sWithout : Stmt := top 39
abbrev sOutside : Stmt := top 40
abbrev sJoined : Stmt := top 41
abbrev sBounded : Stmt := top 42
abbrev sFirstIn : Stmt := top 44
abbrev sLeftMaker : Stmt := top 45
abbrev sRightMaker : Stmt := top 46
abbrev sIsWord : Stmt := top 56
abbrev sIsQuestion : Stmt := top 57
abbrev sAreWords : Stmt := top 58
abbrev sQInit : Stmt := inClass (top 59) 0
abbrev sStretchesIn : Stmt := inClass (top 59) 1
abbrev sMakers : Stmt := inClass (top 59) 2
abbrev sNInit : Stmt := inClass (top 60) 0
abbrev sTakeText : Stmt := inClass (top 60) 1
abbrev sAddWords : Stmt := inClass (top 60) 2
abbrev sCutText : Stmt := inClass (top 60) 3
abbrev sChangeText : Stmt := inClass (top 60) 4
abbrev sLayWord : Stmt := inClass (top 60) 5
abbrev sLayJoined : Stmt := inClass (top 60) 6
abbrev sLayBounded : Stmt := inClass (top 60) 7
abbrev sLay : Stmt := inClass (top 60) 8
abbrev sStretchesOf : Stmt := inClass (top 60) 9
abbrev sPlacesMake : Stmt := inClass (top 60) 10
abbrev sCounted : Stmt := top 64
abbrev sFirstCounted : Stmt := top 65
abbrev sWorthOf : Stmt := top 66
abbrev sNarrowest : Stmt := top 67
abbrev sSomeFits : Stmt := top 68
abbrev sShown : Stmt := top 69
abbrev sCompared : Stmt := top 70
abbrev sAsked : Stmt := top 71
abbrev sEndOfCall : Stmt := top 74
abbrev sTextChanged : Stmt := top 75
abbrev sQuestionLaid : Stmt := top 76
abbrev sAnswer : Stmt := top 77
abbrev sAnswers : Stmt := top 78
end Nr

set_option Elab.async false
set_option linter.all false
set_option maxRecDepth 100000
set_option maxHeartbeats 2000000
namespace Nr
open PySem PySem.Spec PyProof.Rows L2 Evl
open Rh06 (Stretch)
section
variable {P : Program} {w : World} {K : PySem.W.Frag} {mg : Str → Option Value} {base : Heap}
/-! ### lies_in, share_a_place, back_to_front -/
def spLies : Sp := fun vs H Q _ => ∃ x y a b, vs = [x, y] ∧ IsSt H x a ∧ IsSt H y b ∧ RetV (.bl (Rh06.isIn a b)) H Q
theorem c_lies {f : Addr} {fd : FuncData} (D : C8.Def K mg "lies_in" sLies f fd) (b : Binds K fd ["inner", "outer"] []) : C8.Cal P w K mg base 1 "lies_in" spLies [] := by
  refine C8.cal0 D b .nil (C8.fnScope_by (N := ["inner", "outer"]) (by decide +kernel)) (fun vs H Q E h => ?_) (fun cdv A outer s H vs Q E hr h => ⟨_, pss_one (ps_ret (pe_and
      (pe_cmpR op_le (pe_ix ix_tup (pv 1) pe_int (fun _ _ => rfl)) (pe_ix ix_tup (pv 0) pe_int (fun _ _ => rfl)) (nomark _))
      (pe_one (pe_cmpR op_le (pe_ix ix_tup (pv 0) pe_int (fun _ _ => rfl)) (pe_ix ix_tup (pv 1) pe_int (fun _ _ => rfl)) (nomark _))))), ?_⟩)
  · obtain ⟨x, y, a, b, rfl, _⟩ := h
    rfl
  · obtain ⟨x, y, a, b, rfl, hx, hy, q⟩ := h
    refine s_ret (v := .bl (Rh06.isIn a b)) (ev_is (ev_andV (ev_op (ev_st0 (ev_var rfl) hy) (ev_st0 (ev_var rfl) hx) rv_I0) fun _ => ev_op (ev_st1 (ev_var rfl) hx) (ev_st1 (ev_var rfl) hy) rv_I0) ?_) q
    unfold Rh06.isIn
    simp only [Int.ofNat_le]
def spShare : Sp := fun vs H Q _ => ∃ x y a b, vs = [x, y] ∧ IsSt H x a ∧ IsSt H y b ∧ RetV (.bl (Ns.shares a b)) H Q
theorem c_share {f : Addr} {fd : FuncData} (D : C8.Def K mg "share_a_place" sShare f fd) (b : Binds K fd ["one", "other"] []) : C8.Cal P w K mg base 1 "share_a_place" spShare [] := by
  refine C8.cal0 D b .nil (C8.fnScope_by (N := ["one", "other"]) (by decide +kernel)) (fun vs H Q E h => ?_) (fun cdv A outer s H vs Q E hr h => ⟨_, pss_one (ps_ret (pe_and
      (pe_cmpR op_le (pe_ix ix_tup (pv 0) pe_int (fun _ _ => rfl)) (pe_ix ix_tup (pv 1) pe_int (fun _ _ => rfl)) (nomark _))
      (pe_one (pe_cmpR op_le (pe_ix ix_tup (pv 1) pe_int (fun _ _ => rfl)) (pe_ix ix_tup (pv 0) pe_int (fun _ _ => rfl)) (nomark _))))), ?_⟩)
  · obtain ⟨x, y, a, b, rfl, _⟩ := h
    rfl
  · obtain ⟨x, y, a, b, rfl, hx, hy, q⟩ := h
    refine s_ret (v := .bl (Ns.shares a b)) (ev_is (ev_andV (ev_op (ev_st0 (ev_var rfl) hx) (ev_st1 (ev_var rfl) hy) rv_I0) fun _ => ev_op (ev_st0 (ev_var rfl) hy) (ev_st1 (ev_var rfl) hx) rv_I0) ?_) q
    unfold Ns.shares
    simp only [Int.ofNat_le]
def spBack : Sp := fun vs H Q _ => ∃ x a, vs = [x] ∧ IsSt H x a ∧ ∀ p H2, H p = none → Ex H H2 → H2 p = some (.tup [.int (-(a.1 : Int)), .int (a.2 : Int)]) → Q (.ref p) H2
theorem c_back {f : Addr} {fd : FuncData} (D : C8.Def K mg "back_to_front" sBack f fd) (b : Binds K fd ["stretch"] []) : C8.Cal P w K mg base 1 "back_to_front" spBack [] := by
  refine C8.cal0 D b .nil (C8.fnScope_by (N := ["stretch"]) (by decide +kernel)) (fun vs H Q E h => ?_) (fun cdv A outer s H vs Q E hr h => ⟨_, pss_one (ps_ret (pe_tup
      (pa_cons (pe_un un_neg (pe_ix ix_tup (pv 0) pe_int (fun _ _ => rfl))) (pa_cons (pe_ix ix_tup (pv 0) pe_int (fun _ _ => rfl)) pa_nil)))), ?_⟩)
  · obtain ⟨x, a, rfl, _⟩ := h
    rfl
  · obtain ⟨x, a, rfl, hx, q⟩ := h
    exact s_retU (eu_tup (ea_cons (ev_un (ev_st0 (ev_var rfl) hx) ru_neg) (ea_cons (ev_st1 (ev_var rfl) hx) ea_nil)) (by show 2 ≤ 100000; decide)) q
/-! ### least -/
def spLeast (K : PySem.W.Frag) : Sp := fun vs H Q _ => ∃ a l, vs = [.ref a] ∧ LAt K H a l ∧ l.length ≤ 50000 ∧ ∀ ys, ys.Perm l → ys.Pairwise Ns.Back → RetS (Ns.leastR ys) H Q
theorem c_least {f : Addr} {fd : FuncData} (D : C8.Def K mg "least" sLeast f fd) (b : Binds K fd ["stretches"] []) (B : C8.Cal P w K mg base 1 "back_to_front" spBack [])
    (ms : mg "sorted" = none) (ml : mg "list" = none) (mr : mg "reversed" = none) : C8.Cal P w K mg base 4 "least" (spLeast K) [] := by
  obtain ⟨fb, fdb, psb, dsb, F, hmb, kpb, bb, db⟩ := B.ex
  cases db
  have sc : FnScope ["stretches", "kept", "stretch"] ["stretches"] (C8.fnScope sLeast) := C8.fnScope_by (by decide +kernel)
  refine C8.cal0 D b .nil sc (fun vs H Q E h => ?_) (fun cdv A outer s H vs Q E hr h => ⟨_, pss_cons (ps_set (i := 1) sc.nd rfl (Or.inl rfl) (pe_lst pa_nil))
    (pss_cons (ps_for PassesOwn.never rfl (pi_list (pe_callBK (NsR.cr_sortBy F hr bb) rfl ms (by decide +kernel) (pa_cons (pv 0) pa_nil) (pk_cons (pe_glob (v := .ref fb) rfl hmb rfl) pk_nil))) (pg_name (i := 2) sc.nd rfl (Or.inl rfl))
      (pss_one (ps_if (PW.pt (pw_or (pt_not (pt_truth (pv 1) (fun _ => rfl))) (pw_or1 (pt_cmpR op_lt (pe_ix ix_tup (pv 2) pe_int (fun _ _ => rfl)) (pe_ix ix_tup (pe_ix ix_list (pv 1) (pe_un un_neg pe_int) (fun _ _ => rfl)) pe_int (fun _ _ => rfl)) (nomark _)))))
        (pss_one (ps_expr (pe_bm PySem.F.plainAttrs_list PySem.F.slot_list_append PySem.F.type_list_append mt_append (pv 1) (pa_cons (pv 2) pa_nil)))) pss_nil)))
    (pss_one (ps_ret (NsR.pe_lstRev rfl rfl ml rfl mr (pv 1))))), ?_⟩)
  · obtain ⟨a, l, rfl, _⟩ := h
    rfl
  · obtain ⟨a, l, rfl, ⟨xs, hxs, hst⟩, hlen, q⟩ := h
    refine q_asgL (el_lst ea_nil (Nat.zero_le _)) fun p H1 np e1 hp => ?_
    obtain ⟨ho1, ho2⟩ := back_order H xs
    rw [hst.rd] at ho2
    refine q_forNLn (xs := xs.mergeSort (PySem.W.dataLe false (backKey H))) (el_sortBy (k := backKey H) (ev_var rfl) ev_c (ex_l e1 hxs) (back_alike H xs) (back_sortable H xs) fun x m H2 e2 => ?_)
      (fun p' i σ' H' => ∃ v ks, σ' = [some (.ref a), some (.ref p), v] ∧ Ex H H' ∧ H' p' = some (.lst (xs.mergeSort (PySem.W.dataLe false (backKey H)))) ∧ H' p = some (.lst ks) ∧ p ≠ p' ∧
        Sts H' ks (Ns.leastR (((xs.mergeSort (PySem.W.dataLe false (backKey H))).map (rd H)).take i)).reverse)
      (fun p' H2 np' e2 hp' => ⟨none, [], rfl, e1.trans e2, hp', e2 _ _ hp, (fun z => by rw [← z, hp] at np'; cases np'), .nil⟩)
      (fun p' i σ' H' _ ⟨_, _, _, _, h3, _⟩ => sq_of h3) ?_ ?_
    · obtain ⟨sx, _, hx⟩ := hst.mem m
      refine ⟨x, sx, rfl, hx.ex (e1.trans e2), fun p2 H3 np2 e3 h3 => ⟨e3, .inr ⟨p2, _, _, rfl, h3, ?_⟩⟩⟩
      unfold backKey
      rw [hx.rd]
    · rintro p' i x σ' H' hx ⟨v, ks, rfl, e2, hp', hks, pne, hs⟩
      obtain ⟨sx, _, hsx⟩ := hst.mem ((List.mergeSort_perm _ _).mem_iff.mp (List.mem_of_getElem? hx))
      have hsx' := hsx.ex e2
      have nextl : Ns.leastR (((xs.mergeSort (PySem.W.dataLe false (backKey H))).map (rd H)).take (i + 1)) = Rh06.push sx (Ns.leastR (((xs.mergeSort (PySem.W.dataLe false (backKey H))).map (rd H)).take i)) := by
        unfold Ns.leastR
        rw [List.take_add_one, List.getElem?_map, hx]
        simp only [Option.map_some, Option.toList_some, List.foldl_append, List.foldl_cons, List.foldl_nil]
        rw [hsx.rd]
      generalize hm : Ns.leastR (((xs.mergeSort (PySem.W.dataLe false (backKey H))).map (rd H)).take i) = m at hs nextl
      have more : ∀ H2, Ex H' H2 → Rh06.push sx m = sx :: m → ∃ v' ks', [some (V.ref a), some (V.ref p), some x] = [some (V.ref a), some (V.ref p), v'] ∧ Ex H (upd H2 p (.lst (ks ++ [x]))) ∧ (upd H2 p (.lst (ks ++ [x]))) p' = some (.lst (xs.mergeSort (PySem.W.dataLe false (backKey H)))) ∧ (upd H2 p (.lst (ks ++ [x]))) p = some (.lst ks') ∧ p ≠ p' ∧
          Sts (upd H2 p (.lst (ks ++ [x]))) ks' (Ns.leastR (((xs.mergeSort (PySem.W.dataLe false (backKey H))).map (rd H)).take (i + 1))).reverse := fun H2 e3 hpush => by
        have eo : Ex H (upd H2 p (.lst (ks ++ [x]))) := Ex.mut (e2.trans e3) np
        refine ⟨some x, ks ++ [x], rfl, eo, by rw [upd_ne (Ne.symm pne)]; exact e3 _ _ hp', upd_same, pne, ?_⟩
        rw [nextl, hpush, List.reverse_cons]
        exact Sts.app (Sts.upd ((hs.ex e3)) (e3 _ _ hks)) (.cons (hsx.ex eo) .nil)
      have short : ks.length < 100000 := by
        have h1 := hs.len
        have h2 : m.length ≤ 50000 := by rw [← hm]; exact Nat.le_trans (Ns.leastR_len _) (by rw [List.length_take, List.length_map, List.length_mergeSort, hst.len]; omega)
        rw [List.length_reverse] at h1
        omega
      cases m with
      | nil =>
        cases hs
        refine s_when (b := true) (et_is (et_or (et_not (et_truL (xs := []) (ev_var rfl) (sq_of hks))) (b := true) fun h => nomatch h) rfl) (fun _ H2 e3 => ?_) (fun h => nomatch h)
        exact s_app (e3 _ _ hks) (ev_var rfl) (ev_var rfl) short fun H3 e4 => more H3 (e3.trans e4) rfl
      | cons y r =>
        rw [List.reverse_cons] at hs
        obtain ⟨ks', z, hz, rfl⟩ : ∃ ks' z, IsSt H' z y ∧ ks = ks' ++ [z] := hs.last
        refine s_when (b := decide (sx.2 < y.2)) (et_is (et_or (et_not (et_truL (xs := ks' ++ [z]) (ev_var rfl) (sq_of hks))) (b := decide (sx.2 < y.2)) fun _ => et_test (ev_is (ev_op (ev_st1 (ev_var rfl) hsx') (ev_st1 (ev_op (ev_var rfl) (ev_un ev_c ru_neg) (rv_ixL (sq_of hks) (atI_last ks' z))) hz) rv_I0) ?_)) ?_) (fun hb H2 e3 => ?_) (fun hb H2 e3 => ?_)
        · simp only [Int.ofNat_lt]
        · simp
        · have hb' : sx.2 < y.2 := by simpa using hb
          exact s_app (e3 _ _ hks) (ev_var rfl) (ev_var rfl) short fun H3 e4 => more H3 (e3.trans e4) (by show (if y.2 ≤ sx.2 then _ else _) = _; rw [if_neg (by omega)])
        · have hb' : ¬ sx.2 < y.2 := by simpa using hb
          refine ⟨some x, ks' ++ [z], rfl, e2.trans e3, e3 _ _ hp', e3 _ _ hks, pne, ?_⟩
          rw [nextl, show Rh06.push sx (y :: r) = y :: r by show (if y.2 ≤ sx.2 then _ else _) = _; rw [if_pos (by omega)], List.reverse_cons]
          exact hs.ex e3
    · rintro p' σ' H' ⟨v, ks, rfl, e2, hp', hks, pne, hs⟩
      refine s_retRev (ev_var rfl) (sq_of hks) hs ?_
      rw [List.reverse_reverse, ← List.length_map (as := xs.mergeSort (PySem.W.dataLe false (backKey H))) (rd H), List.take_length]
      exact fun p2 ys H2 np2 e3 h2 hs2 => q _ ho2 ho1 p2 ys H2 (fresh_back e2 np2) (e2.trans e3) h2 hs2
end
end Nr

set_option Elab.async false
set_option linter.all false
set_option maxRecDepth 100000
set_option maxHeartbeats 2000000
namespace Nr
open PySem PySem.Spec PyProof.Rows L2 Evl
open Rh06 (Stretch)
/-- a tracked list of stretches -/
def LT (H : Hp) (a : Addr) (l : List Stretch) : Prop := ∃ xs, H a = some (.lst xs) ∧ Sts H xs l
theorem LT.ex {H H' : Hp} {a : Addr} {l : List Stretch} (e : Ex H H') : LT H a l → LT H' a l := fun ⟨xs, h, s⟩ => ⟨xs, e _ _ h, s.ex e⟩
theorem LT.at {K : PySem.W.Frag} {H : Hp} {a : Addr} {l : List Stretch} : LT H a l → LAt K H a l := fun ⟨xs, h, s⟩ => ⟨xs, sq_of h, s⟩
/-- None, or a stretch of the list's own -/
def RetO (o : Option Stretch) (H : Hp) (Q : VK) : Prop := match o with
  | none => RetV .non H Q
  | some b => ∀ v, IsSt H v b → RetV v H Q
theorem RetO.ex {o : Option Stretch} {H H' : Hp} {Q : VK} (e : Ex H H') (h : RetO o H Q) : (o = none → Q .non H') ∧ ∀ b v, o = some b → IsSt H v b → Q v H' := by
  refine ⟨fun z => ?_, fun b v z k => ?_⟩
  · subst z
    exact h H' e
  · subst z
    exact h v k H' e
/-- None, or the stretch -/
def OptV (H : Hp) (o : Option Stretch) (v : V) : Prop := match o with
  | none => v = .non
  | some b => IsSt H v b
theorem OptV.ex {H H' : Hp} {o : Option Stretch} {v : V} (e : Ex H H') (h : OptV H o v) : OptV H' o v := by
  cases o with
  | none => exact h
  | some b => exact IsSt.ex e h
theorem OptV.non {H : Hp} {o : Option Stretch} {v : V} (h : OptV H o v) : (!decide (v = .non)) = o.isSome := by
  cases o with
  | none =>
    rw [show v = .non from h]
    rfl
  | some b =>
    obtain ⟨t, rfl, _⟩ := (show IsSt H v b from h)
    rfl
theorem RetO.of {o : Option Stretch} {H : Hp} {Q : VK} (h : ∀ v H1, Ex H H1 → OptV H o v → Q v H1) : RetO o H Q := by
  cases o with
  | none => exact fun H1 e => h _ H1 e rfl
  | some b => exact fun v k H1 e => h v H1 e k
theorem take_succ {l : List Stretch} {i : Nat} {s : Stretch} (h : l[i]? = some s) : l.take (i + 1) = l.take i ++ [s] := by
  rw [List.take_add_one, h]
  rfl
section
variable {K : PySem.W.Frag} {σ : L2.St} {H H' : Hp} {ta tb te : TE} {x y v : V}
theorem ev_notN (h : Ev te σ H v) : Ev (tNotN te) σ H (.bl (!decide (v = .non))) := fun H1 e _ q => h H1 e _ fun H2 e2 => q H2 e2
theorem el_cat {a b : Addr} {xs ys : List V} (ha : Ev ta σ H (.ref a)) (hb : Ev tb σ H (.ref b)) (h1 : H a = some (.lst xs)) (h2 : H b = some (.lst ys)) (hz : xs.length + ys.length ≤ 100000) : EvL (tOp rCat ta tb) σ H (xs ++ ys) := fun H1 e Q q =>
  ha H1 e _ fun H2 e2 => hb H2 (e.trans e2) _ fun H3 e3 => ⟨a, b, xs, ys, rfl, rfl, ((e.trans e2).trans e3) _ _ h1, ((e.trans e2).trans e3) _ _ h2, sz_of hz, fun p hp =>
    q p _ (fresh_back (e2.trans e3) hp) ((e2.trans e3).trans (Ex.new hp)) upd_same⟩
end
section
variable {P : Program} {w : World} {K : PySem.W.Frag} {mg : Str → Option Value} {base : Heap}
/-! ### first_from, last_by -/
def spFirstFrom (K : PySem.W.Frag) : Sp := fun vs H Q _ => ∃ (a : Addr) (l : List Stretch) (p : Nat), vs = [.ref a, .int (p : Int)] ∧ LAt K H a l ∧ RetO (Ns.firstFrom l p) H Q
theorem c_firstFrom {f : Addr} {fd : FuncData} (D : C8.Def K mg "first_from" sFirstFrom f fd) (b : Binds K fd ["stretches", "place"] []) : C8.Cal P w K mg base 1 "first_from" (spFirstFrom K) [] := by
  have sc : FnScope ["stretches", "place", "stretch"] ["stretches", "place"] (C8.fnScope sFirstFrom) := C8.fnScope_by (by decide +kernel)
  refine C8.cal0 D b .nil sc (fun vs H Q E h => ?_) (fun cdv A outer s H vs Q E hr h => ⟨_, pss_cons (ps_for PassesOwn.never rfl (pi_list (pv 0)) (pg_name (i := 2) sc.nd rfl (Or.inl rfl))
      (pss_one (ps_if (pt_cmpR op_ge (pe_ix ix_tup (pv 2) pe_int (fun _ _ => rfl)) (pv 1) (nomark _)) (pss_one (ps_ret (pv 2))) pss_nil)))
    (pss_one (ps_ret pe_non)), ?_⟩)
  · obtain ⟨a, l, p, rfl, _⟩ := h
    rfl
  · obtain ⟨a, l, p, rfl, ⟨xs, hxs, hst⟩, q⟩ := h
    refine q_forLn (ev_var rfl) hxs (fun i σ' H' => ∃ v, σ' = [some (.ref a), some (.int (p : Int)), v] ∧ Ex H H' ∧ ∀ s ∈ l.take i, ¬ p ≤ s.1) (fun H1 e1 => ⟨none, rfl, e1, fun s m => by rw [List.take_zero] at m; cases m⟩)
      (fun i σ' H' _ ⟨_, _, e, _⟩ => ex_l e hxs) ?_ ?_
    · rintro i x σ' H' hx ⟨v, rfl, e, hn⟩
      obtain ⟨s, hs, hsx⟩ := hst.get hx
      refine s_when (b := decide ((p : Int) ≤ (s.1 : Int))) (et_test (ev_op (ev_st0 (ev_var rfl) (hsx.ex e)) (ev_var rfl) rv_I0)) (fun hb H1 e1 => ?_) (fun hb H1 e1 => ?_)
      · have hb' : p ≤ s.1 := by
          have := of_decide_eq_true hb
          omega
        have found : Ns.firstFrom l p = some s := by
          unfold Ns.firstFrom
          rw [List.find?_eq_some_iff_append]
          refine ⟨by simpa using hb', l.take i, l.drop (i + 1), ?_, fun a m => by simpa using hn a m⟩
          have hi : i < l.length := (List.getElem?_eq_some_iff.mp hs).1
          have hg : l[i] = s := (List.getElem?_eq_some_iff.mp hs).2
          rw [← hg, ← List.drop_eq_getElem_cons hi, List.take_append_drop]
        exact s_ret (v := x) (ev_var rfl) fun H2 e2 => (q.ex ((e.trans e1).trans e2)).2 s x found hsx
      · have hb' : ¬ p ≤ s.1 := by
          have := of_decide_eq_false hb
          omega
        refine ⟨some x, rfl, e.trans e1, fun t m => ?_⟩
        rw [take_succ hs] at m
        rcases List.mem_append.mp m with m | m
        · exact hn t m
        · rw [List.mem_singleton.mp m]
          exact hb'
    · rintro σ' H' ⟨v, rfl, e, hn⟩
      have none_ : Ns.firstFrom l p = none := by
        unfold Ns.firstFrom
        rw [List.find?_eq_none]
        intro s m
        rw [hst.len, List.take_length] at hn
        simpa using hn s m
      exact s_ret (v := .non) ev_c fun H2 e2 => (q.ex (e.trans e2)).1 none_
def spLastBy (K : PySem.W.Frag) : Sp := fun vs H Q _ => ∃ (a : Addr) (l : List Stretch) (p : Nat), vs = [.ref a, .int (p : Int)] ∧ LAt K H a l ∧ RetO (Ns.lastBy l p) H Q
theorem c_lastBy {f : Addr} {fd : FuncData} (D : C8.Def K mg "last_by" sLastBy f fd) (b : Binds K fd ["stretches", "place"] []) (mr : mg "reversed" = none) : C8.Cal P w K mg base 1 "last_by" (spLastBy K) [] := by
  have sc : FnScope ["stretches", "place", "stretch"] ["stretches", "place"] (C8.fnScope sLastBy) := C8.fnScope_by (by decide +kernel)
  refine C8.cal0 D b .nil sc (fun vs H Q E h => ?_) (fun cdv A outer s H vs Q E hr h => ⟨_, pss_cons (ps_for PassesOwn.never rfl (pi_reversed rfl mr (pa_cons (pv 0) pa_nil)) (pg_name (i := 2) sc.nd rfl (Or.inl rfl))
      (pss_one (ps_if (pt_cmpR op_le (pe_ix ix_tup (pv 2) pe_int (fun _ _ => rfl)) (pv 1) (nomark _)) (pss_one (ps_ret (pv 2))) pss_nil)))
    (pss_one (ps_ret pe_non)), ?_⟩)
  · obtain ⟨a, l, p, rfl, _⟩ := h
    rfl
  · obtain ⟨a, l, p, rfl, ⟨xs, hxs, hst⟩, q⟩ := h
    refine ⟨_, rfl, a, xs, rfl, hxs, RT.for_Itv (fun i σ' H' => ∃ v, σ' = [some (.ref a), some (.int (p : Int)), v] ∧ Ex H H' ∧ ∀ s ∈ l.reverse.take i, ¬ s.2 ≤ p) ⟨none, rfl, Ex.refl H, fun s m => by rw [List.take_zero] at m; cases m⟩
      (fun i σ' H' ⟨_, _, e, _⟩ => ex_l e hxs) ?_ ?_⟩
    · rintro i x σ' H' hi hx ⟨v, rfl, e, hn⟩
      obtain ⟨s, hs, hsx⟩ := hst.get hx
      have hs' : l.reverse[i]? = some s := by
        have h1 : i < l.length := by rw [← hst.len]; exact hi
        rw [List.getElem?_reverse h1, ← hst.len]
        exact hs
      refine s_when (b := decide ((s.2 : Int) ≤ (p : Int))) (et_test (ev_op (ev_st1 (ev_var rfl) (hsx.ex e)) (ev_var rfl) rv_I0)) (fun hb H1 e1 => ?_) (fun hb H1 e1 => ?_)
      · have hb' : s.2 ≤ p := by
          have := of_decide_eq_true hb
          omega
        have found : Ns.lastBy l p = some s := by
          unfold Ns.lastBy
          rw [List.find?_eq_some_iff_append]
          refine ⟨by simpa using hb', l.reverse.take i, l.reverse.drop (i + 1), ?_, fun a m => by simpa using hn a m⟩
          have hi : i < l.reverse.length := (List.getElem?_eq_some_iff.mp hs').1
          have hg : l.reverse[i] = s := (List.getElem?_eq_some_iff.mp hs').2
          rw [← hg, ← List.drop_eq_getElem_cons hi, List.take_append_drop]
        exact s_ret (v := x) (ev_var rfl) fun H2 e2 => (q.ex ((e.trans e1).trans e2)).2 s x found hsx
      · have hb' : ¬ s.2 ≤ p := by
          have := of_decide_eq_false hb
          omega
        refine ⟨some x, rfl, e.trans e1, fun t m => ?_⟩
        rw [take_succ hs'] at m
        rcases List.mem_append.mp m with m | m
        · exact hn t m
        · rw [List.mem_singleton.mp m]
          exact hb'
    · rintro σ' H' ⟨v, rfl, e, hn⟩
      have none_ : Ns.lastBy l p = none := by
        unfold Ns.lastBy
        rw [List.find?_eq_none]
        intro s m
        rw [hst.len, ← List.length_reverse, List.take_length] at hn
        simpa using hn s m
      exact s_ret (σ := [some (.ref a), some (.int (p : Int)), v]) (D := { nx := fun _ H' => Q .non H', rt := Q }) (v := .non) (te := tC .non) ev_c fun H2 e2 => (q.ex (e.trans e2)).1 none_
end
end Nr

set_option Elab.async false
set_option linter.all false
set_option maxRecDepth 100000
set_option maxHeartbeats 2000000
namespace Nr
open PySem PySem.Spec PyProof.Rows L2 Evl
open Rh06 (Stretch)
theorem sp_least {K : PySem.W.Frag} {H : Hp} {a : Addr} {l r : List Stretch} (h : LAt K H a l) (hl : l.length ≤ 50000) (hr : ∀ ys, ys.Perm l → ys.Pairwise Ns.Back → Ns.leastR ys = r) : SpS (spLeast K) ([.ref a] ++ []) H r := fun H1 e Q q E =>
  ⟨a, l, rfl, h.ex e, hl, fun ys h1 h2 => by rw [hr ys h1 h2]; exact q⟩
theorem ev_min2 {σ : L2.St} {H : Hp} {ta tb : TE} {i j : Int} (ha : Ev ta σ H (.int i)) (hb : Ev tb σ H (.int j)) : Ev (tCB (fun xs H Q => ∃ i j, xs = [.int i, .int j] ∧ Q (.int (if j < i then j else i)) H) (tCons ta (tCons tb tNil))) σ H (.int (if j < i then j else i)) := fun H1 e _ q => ha H1 e _ fun H2 a => hb H2 (e.trans a) _ fun H3 c => ⟨i, j, rfl, q H3 (a.trans c)⟩
/-- x = f(..), something behind -/
theorem q_call {σ : L2.St} {H : Hp} {sp : Sp} {dvs vs : List V} {ta : TA} {E : XK} {D : Ends} {tz : TS} {i : Nat} (h : EvA ta σ H vs) (k : ∀ H2, Ex H H2 → sp (vs ++ dvs) H2 (fun v H3 => tz D (σ.set i (some v)) H3) E) : tSeq (tAsg (tCall sp dvs E ta) (gName i)) tz D σ H :=
  h H (Ex.refl H) _ fun H2 e2 => k H2 e2
/-- the two lists that a join is of -/
structure Two (H : Hp) (a b : Addr) (l r : List Stretch) : Prop where
  la : LT H a l
  lb : LT H b r
  ra : Ns.Rising l
  rb : Ns.Rising r
  na : l.length ≤ 1000
  nb : r.length ≤ 1000
theorem Two.ex {H H' : Hp} {a b : Addr} {l r : List Stretch} (t : Two H a b l r) (e : Ex H H') : Two H' a b l r := ⟨t.la.ex e, t.lb.ex e, t.ra, t.rb, t.na, t.nb⟩
/-- a join of two lists: what it gives -/
def spJoin (g : List Stretch → List Stretch → List Stretch) : Sp := fun vs H Q _ => ∃ a b l r, vs = [.ref a, .ref b] ∧ Two H a b l r ∧ RetS (g l r) H Q
theorem spJoin_len {g : List Stretch → List Stretch → List Stretch} {vs : List V} {H : Hp} {Q : VK} {E : XK} (h : spJoin g vs H Q E) : vs.length = 2 := by
  obtain ⟨a, b, l, r, rfl, _⟩ := h
  rfl
section
variable {P : Program} {w : World} {K : PySem.W.Frag} {mg : Str → Option Value} {base : Heap}
theorem c_either {f : Addr} {fd : FuncData} (D : C8.Def K mg "either_of" sEither f fd) (b : Binds K fd ["left", "right"] []) (L : C8.Cal P w K mg base 4 "least" (spLeast K) []) : C8.Cal P w K mg base 5 "either_of" (spJoin Rh06.either) [] := by
  have sc : FnScope ["left", "right"] ["left", "right"] (C8.fnScope sEither) := C8.fnScope_by (by decide +kernel)
  refine C8.cal0 D b .nil sc (fun vs H Q E h => spJoin_len h) (fun cdv A outer s H vs Q E hr h => ⟨_, pss_one (ps_ret (C8.pe_c L hr (by decide) rfl (pa_cons (pe_op op_cat (pv 0) (pv 1)) pa_nil))), ?_⟩)
  obtain ⟨a, b, l, r, rfl, T, q⟩ := h
  obtain ⟨xs, hx, sx⟩ := T.la
  obtain ⟨ys, hy, sy⟩ := T.lb
  have n1 := T.na
  have n2 := T.nb
  have hz : xs.length + ys.length ≤ 100000 := by rw [sx.len, sy.len]; omega
  refine el_cat (ev_var rfl) (ev_var rfl) hx hy hz H (Ex.refl H) _ fun p H1 np e1 hp => ?_
  refine sp_least (r := Rh06.either l r) ⟨_, sq_of hp, (sx.app sy).ex e1⟩ (by rw [List.length_append]; omega) (fun zs h1 h2 => Ns.either_of T.ra T.rb h1 h2) H1 (Ex.refl H1) _ (fun p2 xs2 H2 np2 e2 h2 s2 => ?_) C8.E0
  exact q p2 xs2 H2 (fresh_back e1 np2) (e1.trans e2) h2 s2
theorem orderFound_len (l r : List Stretch) : (Ns.orderFound l r).length ≤ l.length := List.length_filterMap_le _ _
theorem c_order {f : Addr} {fd : FuncData} (D : C8.Def K mg "order_of" sOrder f fd) (b : Binds K fd ["left", "right"] []) (L : C8.Cal P w K mg base 4 "least" (spLeast K) []) (FF : C8.Cal P w K mg base 1 "first_from" (spFirstFrom K) []) : C8.Cal P w K mg base 5 "order_of" (spJoin Rh06.order) [] := by
  have sc : FnScope ["left", "right", "found", "stretch", "follower"] ["left", "right"] (C8.fnScope sOrder) := C8.fnScope_by (by decide +kernel)
  refine C8.cal0 D b .nil sc (fun vs H Q E h => spJoin_len h) (fun cdv A outer s H vs Q E hr h => ⟨_, pss_cons (ps_set (i := 2) sc.nd rfl (Or.inl rfl) (pe_lst pa_nil))
    (pss_cons (ps_for PassesOwn.never rfl (pi_list (pv 0)) (pg_name (i := 3) sc.nd rfl (Or.inl rfl))
      (pss_cons (ps_set (i := 4) sc.nd rfl (Or.inl rfl) (C8.pe_c FF hr (by decide) rfl (pa_cons (pv 1) (pa_cons (pe_op op_add (pe_ix ix_tup (pv 3) pe_int (fun _ _ => rfl)) pe_int) pa_nil))))
      (pss_one (ps_if (pt_cmp (pc_notN (pv 4))) (pss_one (ps_expr (pe_bm PySem.F.plainAttrs_list PySem.F.slot_list_append PySem.F.type_list_append mt_append (pv 2)
        (pa_cons (pe_tup (pa_cons (pe_ix ix_tup (pv 3) pe_int (fun _ _ => rfl)) (pa_cons (pe_ix ix_tup (pv 4) pe_int (fun _ _ => rfl)) pa_nil))) pa_nil)))) pss_nil))))
    (pss_one (ps_ret (C8.pe_c L hr (by decide) rfl (pa_cons (pv 2) pa_nil))))), ?_⟩)
  obtain ⟨a, b, l, r, rfl, T, q⟩ := h
  obtain ⟨xs, hx, sx⟩ := T.la
  refine q_asgL (el_lst ea_nil (Nat.zero_le _)) fun p H1 np e1 hp => ?_
  refine q_forLn (xs := xs) (ev_var rfl) (sq_of (e1 _ _ hx)) (fun i σ' H' => ∃ v3 v4 ks, σ' = [some (.ref a), some (.ref b), some (.ref p), v3, v4] ∧ Ex H H' ∧ H' p = some (.lst ks) ∧ Sts H' ks (Ns.orderFound (l.take i) r))
    (fun H2 e2 => ⟨none, none, [], rfl, e1.trans e2, e2 _ _ hp, .nil⟩) (fun i σ' H' _ ⟨_, _, _, _, e, _⟩ => sq_of (e _ _ hx)) ?_ ?_
  · rintro i x σ' H' hi ⟨v3, v4, ks, rfl, e, hk, sk⟩
    obtain ⟨s, hs, hsx⟩ := sx.get hi
    have hsx' := hsx.ex e
    have short : ks.length < 100000 := by
      have h1 := orderFound_len (l.take i) r
      have h2 := T.na
      rw [List.length_take] at h1
      rw [sk.len]
      omega
    have nxt : Ns.orderFound (l.take (i + 1)) r = Ns.orderFound (l.take i) r ++ ((Ns.firstFrom r (s.2 + 1)).map fun b => (s.1, b.2)).toList := by
      unfold Ns.orderFound
      rw [take_succ hs, List.filterMap_append]
      cases h : Ns.firstFrom r (s.2 + 1) <;> simp [h]
    -- follower = first_from(right, stretch[1] + 1)
    have ag : EvA (tCons (tVar 1) (tCons (tOp (rI0 fun i j => .int (i + j)) (tOp (rIxT K) (tVar 3) (tC (.int 1))) (tC (.int 1))) tNil)) [some (.ref a), some (.ref b), some (.ref p), some x, v4] H' [.ref b, .int (((s.2 + 1 : Nat)) : Int)] :=
      ea_cons (ev_var rfl) (ea_cons (ev_is (ev_op (ev_st1 (ev_var rfl) hsx') ev_c rv_I0) (by simp)) ea_nil)
    refine q_call ag fun H2 e2 => ⟨b, r, s.2 + 1, rfl, (T.lb.ex (e.trans e2)).at, ?_⟩
    cases hf : Ns.firstFrom r (s.2 + 1) with
    | none =>
      intro H3 e3
      refine s_when (b := false) (et_B (ev_is (ev_notN (v := .non) (ev_var rfl)) rfl)) (fun h => nomatch h) (fun _ H4 e4 => ?_)
      refine ⟨some x, some .non, ks, rfl, ((e.trans e2).trans e3).trans e4, ((e2.trans e3).trans e4) _ _ hk, ?_⟩
      rw [nxt, hf]
      show Sts H4 ks (_ ++ [])
      rw [List.append_nil]
      exact sk.ex ((e2.trans e3).trans e4)
    | some t =>
      intro v hv H3 e3
      obtain ⟨tv, rfl, htv⟩ := id hv
      refine s_when (b := true) (et_B (ev_is (ev_notN (v := .ref tv) (ev_var rfl)) rfl)) (fun _ H4 e4 => ?_) (fun h => nomatch h)
      have e34 := (e2.trans e3).trans e4
      refine s_appU (e34 _ _ hk) (ev_var rfl) (eu_tup (ea_cons (ev_st0 (ev_var rfl) (hsx'.ex e34)) (ea_cons (ev_st1 (ev_var rfl) (hv.ex (e3.trans e4))) ea_nil)) (by show 2 ≤ 100000; decide)) short fun pt H5 np5 e5 h5 => ?_
      refine ⟨some x, some (.ref tv), ks ++ [.ref pt], rfl, Ex.mut ((e.trans e34).trans e5) np, upd_same, ?_⟩
      rw [nxt, hf]
      exact Sts.app ((sk.ex (e34.trans e5)).upd ((e34.trans e5) _ _ hk)) (.cons (IsSt.upd (s := (s.1, t.2)) ⟨pt, rfl, h5⟩ ((e34.trans e5) _ _ hk)) .nil)
  · rintro σ' H' ⟨v3, v4, ks, rfl, e, hk, sk⟩
    rw [sx.len, List.take_length] at sk
    have n1 := T.na
    refine s_retS (l := Rh06.order l r) (es_call (ea_cons (ev_var rfl) ea_nil) (sp_least ⟨ks, sq_of hk, sk⟩ (by have := orderFound_len l r; omega) fun zs h1 h2 => Ns.order_of T.ra T.rb h1 h2)) fun p2 xs2 H2 np2 e2 h2 s2 => ?_
    exact q p2 xs2 H2 (fresh_back e np2) (e.trans e2) h2 s2
theorem nextFound_len (l r : List Stretch) : (l.filterMap (Ns.nextAt r)).length ≤ l.length := List.length_filterMap_le _ _
theorem c_next {f : Addr} {fd : FuncData} (D : C8.Def K mg "next_of" sNext f fd) (b : Binds K fd ["left", "right"] []) (FF : C8.Cal P w K mg base 1 "first_from" (spFirstFrom K) []) : C8.Cal P w K mg base 2 "next_of" (spJoin Rh06.next) [] := by
  have sc : FnScope ["left", "right", "found", "stretch", "follower"] ["left", "right"] (C8.fnScope sNext) := C8.fnScope_by (by decide +kernel)
  refine C8.cal0 D b .nil sc (fun vs H Q E h => spJoin_len h) (fun cdv A outer s H vs Q E hr h => ⟨_, pss_cons (ps_set (i := 2) sc.nd rfl (Or.inl rfl) (pe_lst pa_nil))
    (pss_cons (ps_for PassesOwn.never rfl (pi_list (pv 0)) (pg_name (i := 3) sc.nd rfl (Or.inl rfl))
      (pss_cons (ps_set (i := 4) sc.nd rfl (Or.inl rfl) (C8.pe_c FF hr (by decide) rfl (pa_cons (pv 1) (pa_cons (pe_op op_add (pe_ix ix_tup (pv 3) pe_int (fun _ _ => rfl)) pe_int) pa_nil))))
      (pss_one (ps_if (PW.pt (pw_and (pt_cmp (pc_notN (pv 4))) (pw_and1 (pt_cmpR op_eq (pe_ix ix_tup (pv 4) pe_int (fun _ _ => rfl)) (pe_op op_add (pe_ix ix_tup (pv 3) pe_int (fun _ _ => rfl)) pe_int) (nomark _))))) (pss_one (ps_expr (pe_bm PySem.F.plainAttrs_list PySem.F.slot_list_append PySem.F.type_list_append mt_append (pv 2)
        (pa_cons (pe_tup (pa_cons (pe_ix ix_tup (pv 3) pe_int (fun _ _ => rfl)) (pa_cons (pe_ix ix_tup (pv 4) pe_int (fun _ _ => rfl)) pa_nil))) pa_nil)))) pss_nil))))
    (pss_one (ps_ret (pv 2)))), ?_⟩)
  obtain ⟨a, b, l, r, rfl, T, q⟩ := h
  obtain ⟨xs, hx, sx⟩ := T.la
  refine q_asgL (el_lst ea_nil (Nat.zero_le _)) fun p H1 np e1 hp => ?_
  refine q_forLn (xs := xs) (ev_var rfl) (sq_of (e1 _ _ hx)) (fun i σ' H' => ∃ v3 v4 ks, σ' = [some (.ref a), some (.ref b), some (.ref p), v3, v4] ∧ Ex H H' ∧ H' p = some (.lst ks) ∧ Sts H' ks ((l.take i).filterMap (Ns.nextAt r)))
    (fun H2 e2 => ⟨none, none, [], rfl, e1.trans e2, e2 _ _ hp, .nil⟩) (fun i σ' H' _ ⟨_, _, _, _, e, _⟩ => sq_of (e _ _ hx)) ?_ ?_
  · rintro i x σ' H' hi ⟨v3, v4, ks, rfl, e, hk, sk⟩
    obtain ⟨s, hs, hsx⟩ := sx.get hi
    have hsx' := hsx.ex e
    have short : ks.length < 100000 := by
      have h1 := nextFound_len (l.take i) r
      have h2 := T.na
      rw [List.length_take] at h1
      rw [sk.len]
      omega
    have nxt : (l.take (i + 1)).filterMap (Ns.nextAt r) = (l.take i).filterMap (Ns.nextAt r) ++ (Ns.nextAt r s).toList := by
      rw [take_succ hs, List.filterMap_append]
      cases h : Ns.nextAt r s <;> simp [h]
    have ag : EvA (tCons (tVar 1) (tCons (tOp (rI0 fun i j => .int (i + j)) (tOp (rIxT K) (tVar 3) (tC (.int 1))) (tC (.int 1))) tNil)) [some (.ref a), some (.ref b), some (.ref p), some x, v4] H' [.ref b, .int (((s.2 + 1 : Nat)) : Int)] :=
      ea_cons (ev_var rfl) (ea_cons (ev_is (ev_op (ev_st1 (ev_var rfl) hsx') ev_c rv_I0) (by simp)) ea_nil)
    refine q_call ag fun H2 e2 => ⟨b, r, s.2 + 1, rfl, (T.lb.ex (e.trans e2)).at, ?_⟩
    cases hf : Ns.firstFrom r (s.2 + 1) with
    | none =>
      intro H3 e3
      refine s_when (b := false) (et_is (et_and (et_B (ev_is (ev_notN (v := .non) (ev_var rfl)) rfl)) (a := false) (b := false) fun h => nomatch h) rfl) (fun h => nomatch h) (fun _ H4 e4 => ?_)
      refine ⟨some x, some .non, ks, rfl, ((e.trans e2).trans e3).trans e4, ((e2.trans e3).trans e4) _ _ hk, ?_⟩
      have z : Ns.nextAt r s = none := by unfold Ns.nextAt; rw [hf]
      rw [nxt, z]
      show Sts H4 ks (_ ++ [])
      rw [List.append_nil]
      exact sk.ex ((e2.trans e3).trans e4)
    | some t =>
      intro v hv H3 e3
      obtain ⟨tv, rfl, htv⟩ := id hv
      have e23 := e2.trans e3
      refine s_when (b := decide (t.1 = s.2 + 1)) (et_is (et_and (et_B (ev_is (ev_notN (v := .ref tv) (ev_var rfl)) rfl)) (a := true) (b := decide (t.1 = s.2 + 1)) fun _ => et_test (ev_is (ev_op (ev_st0 (ev_var rfl) (hv.ex e3)) (ev_op (ev_st1 (ev_var rfl) (hsx'.ex e23)) ev_c rv_I0) (rv_eq rfl)) ?_)) (by simp)) (fun hb H4 e4 => ?_) (fun hb H4 e4 => ?_)
      · have : ((V.int (t.1 : Int)) = V.int ((s.2 : Int) + 1)) ↔ t.1 = s.2 + 1 := by
          constructor
          · intro h
            injection h with h
            omega
          · intro h
            rw [h]
            simp
        simp only [this]
      · have hb' : t.1 = s.2 + 1 := by simpa using hb
        have e34 := (e2.trans e3).trans e4
        refine s_appU (e34 _ _ hk) (ev_var rfl) (eu_tup (ea_cons (ev_st0 (ev_var rfl) (hsx'.ex e34)) (ea_cons (ev_st1 (ev_var rfl) (hv.ex (e3.trans e4))) ea_nil)) (by show 2 ≤ 100000; decide)) short fun pt H5 np5 e5 h5 => ?_
        refine ⟨some x, some (.ref tv), ks ++ [.ref pt], rfl, Ex.mut ((e.trans e34).trans e5) np, upd_same, ?_⟩
        have z : Ns.nextAt r s = some (s.1, t.2) := by unfold Ns.nextAt; rw [hf]; exact if_pos hb'
        rw [nxt, z]
        exact Sts.app ((sk.ex (e34.trans e5)).upd ((e34.trans e5) _ _ hk)) (.cons (IsSt.upd (s := (s.1, t.2)) ⟨pt, rfl, h5⟩ ((e34.trans e5) _ _ hk)) .nil)
      · have hb' : ¬ t.1 = s.2 + 1 := by simpa using hb
        refine ⟨some x, some (.ref tv), ks, rfl, ((e.trans e2).trans e3).trans e4, ((e2.trans e3).trans e4) _ _ hk, ?_⟩
        have z : Ns.nextAt r s = none := by unfold Ns.nextAt; rw [hf]; exact if_neg hb'
        rw [nxt, z]
        show Sts H4 ks (_ ++ [])
        rw [List.append_nil]
        exact sk.ex ((e2.trans e3).trans e4)
  · rintro σ' H' ⟨v3, v4, ks, rfl, e, hk, sk⟩
    rw [sx.len, List.take_length, Ns.next_of T.ra T.rb] at sk
    exact s_ret (v := .ref p) (ev_var rfl) fun H2 e2 => q p ks H2 np (e.trans e2) (e2 _ _ hk) (sk.ex e2)
theorem bothFound_len (l r : List Stretch) : (Ns.bothFound l r).length ≤ l.length + r.length := by
  have := List.length_filterMap_le (fun s : Stretch => Ns.bothAt l r s.2) (l ++ r)
  rw [List.length_append] at this
  exact this
theorem c_both {f : Addr} {fd : FuncData} (D : C8.Def K mg "both_of" sBoth f fd) (b : Binds K fd ["left", "right"] []) (L : C8.Cal P w K mg base 4 "least" (spLeast K) []) (LB : C8.Cal P w K mg base 1 "last_by" (spLastBy K) []) (mi : mg "min" = none) (ma : mg "max" = none) : C8.Cal P w K mg base 5 "both_of" (spJoin Rh06.both) [] := by
  have sc : FnScope ["left", "right", "found", "stretch", "from_left", "from_right"] ["left", "right"] (C8.fnScope sBoth) := C8.fnScope_by (by decide +kernel)
  refine C8.cal0 D b .nil sc (fun vs H Q E h => spJoin_len h) (fun cdv A outer s H vs Q E hr h => ⟨_, pss_cons (ps_set (i := 2) sc.nd rfl (Or.inl rfl) (pe_lst pa_nil))
    (pss_cons (ps_for PassesOwn.never rfl (pi_list (pe_op op_cat (pv 0) (pv 1))) (pg_name (i := 3) sc.nd rfl (Or.inl rfl))
      (pss_cons (ps_set (i := 4) sc.nd rfl (Or.inl rfl) (C8.pe_c LB hr (by decide) rfl (pa_cons (pv 0) (pa_cons (pe_ix ix_tup (pv 3) pe_int (fun _ _ => rfl)) pa_nil))))
      (pss_cons (ps_set (i := 5) sc.nd rfl (Or.inl rfl) (C8.pe_c LB hr (by decide) rfl (pa_cons (pv 1) (pa_cons (pe_ix ix_tup (pv 3) pe_int (fun _ _ => rfl)) pa_nil))))
      (pss_one (ps_if (PW.pt (pw_and (pt_cmp (pc_notN (pv 4))) (pw_and1 (pt_cmp (pc_notN (pv 5)))))) (pss_one (ps_expr (pe_bm PySem.F.plainAttrs_list PySem.F.slot_list_append PySem.F.type_list_append mt_append (pv 2)
        (pa_cons (pe_tup (pa_cons (pe_callB (call_min2 rfl) rfl mi PyProof.Rows.boot_min (pa_cons (pe_ix ix_tup (pv 4) pe_int (fun _ _ => rfl)) (pa_cons (pe_ix ix_tup (pv 5) pe_int (fun _ _ => rfl)) pa_nil)))
          (pa_cons (pe_callB (call_max2 rfl) rfl ma PyProof.Rows.boot_max (pa_cons (pe_ix ix_tup (pv 4) pe_int (fun _ _ => rfl)) (pa_cons (pe_ix ix_tup (pv 5) pe_int (fun _ _ => rfl)) pa_nil))) pa_nil))) pa_nil)))) pss_nil)))))
    (pss_one (ps_ret (C8.pe_c L hr (by decide) rfl (pa_cons (pv 2) pa_nil))))), ?_⟩)
  obtain ⟨a, b, l, r, rfl, T, q⟩ := h
  obtain ⟨xs, hx, sx⟩ := T.la
  obtain ⟨ys, hy, sy⟩ := T.lb
  have n1 := T.na
  have n2 := T.nb
  have hz : xs.length + ys.length ≤ 100000 := by rw [sx.len, sy.len]; omega
  have sxy : Sts H (xs ++ ys) (l ++ r) := sx.app sy
  refine q_asgL (el_lst ea_nil (Nat.zero_le _)) fun p H1 np e1 hp => ?_
  refine q_forNLn (xs := xs ++ ys) (el_cat (ev_var rfl) (ev_var rfl) (e1 _ _ hx) (e1 _ _ hy) hz) (fun p' i σ' H' => ∃ v3 v4 v5 ks, σ' = [some (.ref a), some (.ref b), some (.ref p), v3, v4, v5] ∧ Ex H H' ∧ H' p' = some (.lst (xs ++ ys)) ∧ p ≠ p' ∧ H' p = some (.lst ks) ∧ Sts H' ks (((l ++ r).take i).filterMap fun s => Ns.bothAt l r s.2))
    (fun p' H2 np' e2 hp' => ⟨none, none, none, [], rfl, e1.trans e2, hp', (fun z => by rw [← z, hp] at np'; cases np'), e2 _ _ hp, .nil⟩) (fun p' i σ' H' _ ⟨_, _, _, _, _, _, h, _⟩ => sq_of h) ?_ ?_
  · rintro p' i x σ' H' hi ⟨v3, v4, v5, ks, rfl, e, hp', pne, hk, sk⟩
    obtain ⟨s, hs, hsx⟩ := sxy.get hi
    have hsx' := hsx.ex e
    have short : ks.length < 100000 := by
      have h1 := List.length_filterMap_le (fun s : Stretch => Ns.bothAt l r s.2) ((l ++ r).take i)
      rw [List.length_take, List.length_append] at h1
      rw [sk.len]
      omega
    have nxt : ((l ++ r).take (i + 1)).filterMap (fun s => Ns.bothAt l r s.2) = ((l ++ r).take i).filterMap (fun s => Ns.bothAt l r s.2) ++ (Ns.bothAt l r s.2).toList := by
      rw [take_succ hs, List.filterMap_append]
      cases h : Ns.bothAt l r s.2 <;> simp [h]
    have ag1 : EvA (tCons (tVar 0) (tCons (tOp (rIxT K) (tVar 3) (tC (.int 1))) tNil)) [some (.ref a), some (.ref b), some (.ref p), some x, v4, v5] H' [.ref a, .int (s.2 : Int)] := ea_cons (ev_var rfl) (ea_cons (ev_st1 (ev_var rfl) hsx') ea_nil)
    refine q_call ag1 fun H2 e2 => ⟨a, l, s.2, rfl, (T.la.ex (e.trans e2)).at, RetO.of fun w4 H3 e3 o4 => ?_⟩
    have e23 := e2.trans e3
    have ag2 : EvA (tCons (tVar 1) (tCons (tOp (rIxT K) (tVar 3) (tC (.int 1))) tNil)) [some (.ref a), some (.ref b), some (.ref p), some x, some w4, v5] H3 [.ref b, .int (s.2 : Int)] := ea_cons (ev_var rfl) (ea_cons (ev_st1 (ev_var rfl) (hsx'.ex e23)) ea_nil)
    refine q_call ag2 fun H4 e4 => ⟨b, r, s.2, rfl, (T.lb.ex ((e.trans e23).trans e4)).at, RetO.of fun w5 H5 e5 o5 => ?_⟩
    have e25 := (e23.trans e4).trans e5
    have o4' := o4.ex ((e3.trans e4).trans e5)
    have o5' := o5.ex e5
    refine s_when (b := (Ns.lastBy l s.2).isSome && (Ns.lastBy r s.2).isSome) (et_and (et_is (et_B (ev_notN (ev_var rfl))) o4'.non) fun _ => et_is (et_B (ev_notN (ev_var rfl))) o5'.non) (fun hb H6 e6 => ?_) (fun hb H6 e6 => ?_)
    · cases h4 : Ns.lastBy l s.2 with
      | none => rw [h4] at hb; cases hb
      | some t4 =>
        cases h5 : Ns.lastBy r s.2 with
        | none => rw [h4, h5] at hb; cases hb
        | some t5 =>
          rw [h4] at o4'
          rw [h5] at o5'
          have i4 : IsSt H6 w4 t4 := IsSt.ex e6 o4'
          have i5 : IsSt H6 w5 t5 := IsSt.ex e6 o5'
          have e26 := e25.trans e6
          refine s_appU (ys := [.int ((min t4.1 t5.1 : Nat) : Int), .int ((max t4.2 t5.2 : Nat) : Int)]) (e26 _ _ hk) (ev_var rfl) (eu_tup (ea_cons (ev_is (ev_min2 (ev_st0 (ev_var rfl) i4) (ev_st0 (ev_var rfl) i5)) ?_) (ea_cons (ev_is (ev_max2 (ev_st1 (ev_var rfl) i4) (ev_st1 (ev_var rfl) i5)) ?_) ea_nil)) (by show 2 ≤ 100000; decide)) short fun pt H7 np7 e7 h7 => ?_
          · congr 1
            split <;> omega
          · congr 1
            split <;> omega
          · refine ⟨some x, some w4, some w5, ks ++ [.ref pt], rfl, Ex.mut ((e.trans e26).trans e7) np, by rw [upd_ne (Ne.symm pne)]; exact (e26.trans e7) _ _ hp', pne, upd_same, ?_⟩
            have z : Ns.bothAt l r s.2 = some (min t4.1 t5.1, max t4.2 t5.2) := by unfold Ns.bothAt; rw [h4, h5]
            rw [nxt, z]
            exact Sts.app ((sk.ex (e26.trans e7)).upd ((e26.trans e7) _ _ hk)) (.cons (IsSt.upd (s := (min t4.1 t5.1, max t4.2 t5.2)) ⟨pt, rfl, h7⟩ ((e26.trans e7) _ _ hk)) .nil)
    · have e26 := e25.trans e6
      have z : Ns.bothAt l r s.2 = none := by
        unfold Ns.bothAt
        cases h4 : Ns.lastBy l s.2 with
        | none => rfl
        | some t4 =>
          cases h5 : Ns.lastBy r s.2 with
          | none => rfl
          | some t5 => rw [h4, h5] at hb; cases hb
      refine ⟨some x, some w4, some w5, ks, rfl, e.trans e26, e26 _ _ hp', pne, e26 _ _ hk, ?_⟩
      rw [nxt, z]
      show Sts H6 ks (_ ++ [])
      rw [List.append_nil]
      exact sk.ex e26
  · rintro p' σ' H' ⟨v3, v4, v5, ks, rfl, e, hp', pne, hk, sk⟩
    rw [sxy.len, List.take_length] at sk
    refine s_retS (l := Rh06.both l r) (es_call (ea_cons (ev_var rfl) ea_nil) (sp_least ⟨ks, sq_of hk, sk⟩ (by have := bothFound_len l r; unfold Ns.bothFound at this; omega) fun zs h1 h2 => Ns.both_of T.ra T.rb h1 h2)) fun p2 xs2 H2 np2 e2 h2 s2 => ?_
    exact q p2 xs2 H2 (fresh_back e np2) (e.trans e2) h2 s2
end
end Nr

set_option Elab.async false
set_option linter.all false
set_option maxRecDepth 100000
set_option maxHeartbeats 2000000
namespace Nr
open PySem PySem.Spec PyProof.Rows L2 Evl
open Rh06 (Stretch)
/-! ### any([g(..) for other in others]) -/
theorem any_given {xs : List V} {l : List Stretch} {H : Hp} (h : Sts H xs l) (g : Stretch → Bool) : (given xs.length (fun _ => true) (fun i => V.bl (g (l.getD i (0, 0))))) = (l.map g).map V.bl := by
  unfold given
  rw [h.len, List.filter_eq_self.mpr (fun _ _ => rfl)]
  apply List.ext_getElem?
  intro i
  rw [List.getElem?_map, List.getElem?_map, List.getElem?_map]
  by_cases hi : i < l.length
  · rw [List.getElem?_range hi, List.getElem?_eq_getElem hi]
    simp [List.getD, hi]
  · rw [List.getElem?_eq_none (by simpa using hi), List.getElem?_eq_none (by simpa using hi)]
    rfl
theorem ev_anyL {K : PySem.W.Frag} {σ : L2.St} {H : Hp} {te : TE} {bs : List Bool} (h : EvL te σ H (bs.map V.bl)) : Ev (tCB (rAny K) (tCons te tNil)) σ H (.bl (bs.any id)) := fun H1 e Q q =>
  h H1 e _ fun p H2 _ e2 hp => ⟨p, bs, rfl, sq_of hp, q H2 e2⟩
def spSome (K : PySem.W.Frag) (g : Stretch → Stretch → Bool) : Sp := fun vs H Q _ => ∃ x a s l, vs = [x, .ref a] ∧ IsSt H x s ∧ LAt K H a l ∧ l.length ≤ 1000 ∧ RetV (.bl (l.any (g s))) H Q
section
variable {P : Program} {w : World} {K : PySem.W.Frag} {mg : Str → Option Value} {base : Heap}
theorem c_liesSome {f : Addr} {fd : FuncData} (D : C8.Def K mg "lies_in_some" sLiesSome f fd) (b : Binds K fd ["stretch", "others"] []) (L : C8.Cal P w K mg base 1 "lies_in" spLies []) (ma : mg "any" = none) : C8.Cal P w K mg base 2 "lies_in_some" (spSome K Rh06.isIn) [] := by
  have sc : FnScope ["stretch", "others", "other"] ["stretch", "others"] (C8.fnScope sLiesSome) := C8.fnScope_by (by decide +kernel)
  refine C8.cal0 D b .nil sc (fun vs H Q E h => ?_) (fun cdv A outer s H vs Q E hr h => ⟨_, pss_one (ps_ret (pe_callB (cr_any rfl) rfl ma PyProof.Rows.boot_any (pa_cons
    (pe_lc (own := [("other", 2)]) (g := gName 2) (tt := tYes) rfl sc.nd (pi_list (pv 1)) (blkOk_by (N := ["stretch", "others", "other"]) (sc := C8.fnScope sLiesSome) (by decide +kernel))
      (fun _ _ _ _ _ => pg_name (i := 2) sc.nd rfl (Or.inl rfl)) (fun _ _ _ _ _ => pts_nil) (fun _ _ _ _ _ => C8.pe_c L hr (by decide) rfl (pa_cons (pv 0) (pa_cons (pv 2) pa_nil)))) pa_nil))), ?_⟩)
  · obtain ⟨x, a, s, l, rfl, _⟩ := h
    rfl
  · obtain ⟨x, a, s, l, rfl, hx, ⟨xs, hxs, hst⟩, hl, q⟩ := h
    have e0 : l.any (Rh06.isIn s) = (l.map (Rh06.isIn s)).any id := by rw [List.any_map]; rfl
    rw [e0] at q
    refine s_ret (ev_anyL (bs := l.map (Rh06.isIn s)) ?_) q
    rw [← any_given hst]
    refine el_lcL _ _ (ev_var rfl) hxs (by rw [hst.len]; omega) (fun _ => rfl) (fun i y H1 e1 hi H2 e2 Q k => k H2 (Ex.refl H2)) fun i y H1 e1 hi _ => ?_
    obtain ⟨t, ht, hy⟩ := hst.get hi
    rw [List.getD_eq_getElem?_getD, ht]
    exact ev_call (ea_cons (ev_var rfl) (ea_cons (ev_var rfl) ea_nil)) fun H2 e2 Q k E => ⟨x, y, s, t, rfl, hx.ex (e1.trans e2), hy.ex (e1.trans e2), k⟩
theorem c_holdsSome {f : Addr} {fd : FuncData} (D : C8.Def K mg "holds_some" sHoldsSome f fd) (b : Binds K fd ["stretch", "others"] []) (L : C8.Cal P w K mg base 1 "lies_in" spLies []) (ma : mg "any" = none) : C8.Cal P w K mg base 2 "holds_some" (spSome K (fun s o => Rh06.isIn o s)) [] := by
  have sc : FnScope ["stretch", "others", "other"] ["stretch", "others"] (C8.fnScope sHoldsSome) := C8.fnScope_by (by decide +kernel)
  refine C8.cal0 D b .nil sc (fun vs H Q E h => ?_) (fun cdv A outer s H vs Q E hr h => ⟨_, pss_one (ps_ret (pe_callB (cr_any rfl) rfl ma PyProof.Rows.boot_any (pa_cons
    (pe_lc (own := [("other", 2)]) (g := gName 2) (tt := tYes) rfl sc.nd (pi_list (pv 1)) (blkOk_by (N := ["stretch", "others", "other"]) (sc := C8.fnScope sHoldsSome) (by decide +kernel))
      (fun _ _ _ _ _ => pg_name (i := 2) sc.nd rfl (Or.inl rfl)) (fun _ _ _ _ _ => pts_nil) (fun _ _ _ _ _ => C8.pe_c L hr (by decide) rfl (pa_cons (pv 2) (pa_cons (pv 0) pa_nil)))) pa_nil))), ?_⟩)
  · obtain ⟨x, a, s, l, rfl, _⟩ := h
    rfl
  · obtain ⟨x, a, s, l, rfl, hx, ⟨xs, hxs, hst⟩, hl, q⟩ := h
    have e0 : l.any ((fun s o => Rh06.isIn o s) s) = (l.map ((fun s o => Rh06.isIn o s) s)).any id := by rw [List.any_map]; rfl
    rw [e0] at q
    refine s_ret (ev_anyL (bs := l.map ((fun s o => Rh06.isIn o s) s)) ?_) q
    rw [← any_given hst]
    refine el_lcL _ _ (ev_var rfl) hxs (by rw [hst.len]; omega) (fun _ => rfl) (fun i y H1 e1 hi H2 e2 Q k => k H2 (Ex.refl H2)) fun i y H1 e1 hi _ => ?_
    obtain ⟨t, ht, hy⟩ := hst.get hi
    rw [List.getD_eq_getElem?_getD, ht]
    exact ev_call (ea_cons (ev_var rfl) (ea_cons (ev_var rfl) ea_nil)) fun H2 e2 Q k E => ⟨y, x, t, s, rfl, hy.ex (e1.trans e2), hx.ex (e1.trans e2), k⟩
theorem c_meetsSome {f : Addr} {fd : FuncData} (D : C8.Def K mg "meets_some" sMeetsSome f fd) (b : Binds K fd ["stretch", "others"] []) (L : C8.Cal P w K mg base 1 "share_a_place" spShare []) (ma : mg "any" = none) : C8.Cal P w K mg base 2 "meets_some" (spSome K Ns.shares) [] := by
  have sc : FnScope ["stretch", "others", "other"] ["stretch", "others"] (C8.fnScope sMeetsSome) := C8.fnScope_by (by decide +kernel)
  refine C8.cal0 D b .nil sc (fun vs H Q E h => ?_) (fun cdv A outer s H vs Q E hr h => ⟨_, pss_one (ps_ret (pe_callB (cr_any rfl) rfl ma PyProof.Rows.boot_any (pa_cons
    (pe_lc (own := [("other", 2)]) (g := gName 2) (tt := tYes) rfl sc.nd (pi_list (pv 1)) (blkOk_by (N := ["stretch", "others", "other"]) (sc := C8.fnScope sMeetsSome) (by decide +kernel))
      (fun _ _ _ _ _ => pg_name (i := 2) sc.nd rfl (Or.inl rfl)) (fun _ _ _ _ _ => pts_nil) (fun _ _ _ _ _ => C8.pe_c L hr (by decide) rfl (pa_cons (pv 0) (pa_cons (pv 2) pa_nil)))) pa_nil))), ?_⟩)
  · obtain ⟨x, a, s, l, rfl, _⟩ := h
    rfl
  · obtain ⟨x, a, s, l, rfl, hx, ⟨xs, hxs, hst⟩, hl, q⟩ := h
    have e0 : l.any (Ns.shares s) = (l.map (Ns.shares s)).any id := by rw [List.any_map]; rfl
    rw [e0] at q
    refine s_ret (ev_anyL (bs := l.map (Ns.shares s)) ?_) q
    rw [← any_given hst]
    refine el_lcL _ _ (ev_var rfl) hxs (by rw [hst.len]; omega) (fun _ => rfl) (fun i y H1 e1 hi H2 e2 Q k => k H2 (Ex.refl H2)) fun i y H1 e1 hi _ => ?_
    obtain ⟨t, ht, hy⟩ := hst.get hi
    rw [List.getD_eq_getElem?_getD, ht]
    exact ev_call (ea_cons (ev_var rfl) (ea_cons (ev_var rfl) ea_nil)) fun H2 e2 Q k E => ⟨x, y, s, t, rfl, hx.ex (e1.trans e2), hy.ex (e1.trans e2), k⟩
theorem sts_given_go {H : Hp} {xs : List V} {l : List Stretch} (h : Sts H xs l) (p : Stretch → Bool) : ∀ n, n ≤ l.length → Sts H (given n (fun i => p (l.getD i (0, 0))) (fun i => xs.getD i .non)) ((l.take n).filter p)
  | 0, _ => .nil
  | n + 1, hn => by
    obtain ⟨s, hs⟩ : ∃ s, l[n]? = some s := ⟨_, List.getElem?_eq_getElem (by omega)⟩
    obtain ⟨x, hx, k⟩ := h.got hs
    have ih := sts_given_go h p n (by omega)
    have e1 : l.getD n (0, 0) = s := by rw [List.getD_eq_getElem?_getD, hs]; rfl
    have e2 : xs.getD n .non = x := by rw [List.getD_eq_getElem?_getD, hx]; rfl
    rw [take_succ hs, List.filter_append]
    by_cases c : p s = true
    · rw [given_yes (by rw [e1]; exact c), e2, List.filter_cons, if_pos c]
      exact ih.app (.cons k .nil)
    · have c' : p s = false := by simpa using c
      rw [given_no (by rw [e1]; exact c'), List.filter_cons, if_neg c]
      show Sts H _ (_ ++ [])
      rw [List.append_nil]
      exact ih
theorem sts_given {H : Hp} {xs : List V} {l : List Stretch} (h : Sts H xs l) (p : Stretch → Bool) : Sts H (given xs.length (fun i => p (l.getD i (0, 0))) (fun i => xs.getD i .non)) (l.filter p) := by
  have := sts_given_go h p l.length (Nat.le_refl _)
  rw [List.take_length] at this
  rw [h.len]
  exact this
def jInside (l r : List Stretch) : List Stretch := l.filter (Rh06.isInside r)
def jAround (l r : List Stretch) : List Stretch := l.filter (Rh06.isAround r)
def jApart (l r : List Stretch) : List Stretch := l.filter fun a => !Rh06.meets r a
def jWithout (l r : List Stretch) : List Stretch := l.filter fun a => !Rh06.isAround r a
def jOutside (l r : List Stretch) : List Stretch := l.filter fun a => !Rh06.isInside r a
theorem c_inside {f : Addr} {fd : FuncData} (D : C8.Def K mg "inside_of" sInside f fd) (b : Binds K fd ["left", "right"] []) (L : C8.Cal P w K mg base 2 "lies_in_some" (spSome K Rh06.isIn) []) : C8.Cal P w K mg base 3 "inside_of" (spJoin jInside) [] := by
  have sc : FnScope ["left", "right", "stretch"] ["left", "right"] (C8.fnScope sInside) := C8.fnScope_by (by decide +kernel)
  refine C8.cal0 D b .nil sc (fun vs H Q E h => spJoin_len h) (fun cdv A outer s H vs Q E hr h => ⟨_, pss_one (ps_ret
    (pe_lc (own := [("stretch", 2)]) (g := gName 2) rfl sc.nd (pi_list (pv 0)) (blkOk_by (N := ["left", "right", "stretch"]) (sc := C8.fnScope sInside) (by decide +kernel))
      (fun _ _ _ _ _ => pg_name (i := 2) sc.nd rfl (Or.inl rfl)) (fun _ _ _ _ _ => pts_one (pt_val (C8.pe_c L hr (by decide) rfl (pa_cons (pv 2) (pa_cons (pv 1) pa_nil))))) (fun _ _ _ _ _ => pv 2))), ?_⟩)
  obtain ⟨a, b, l, r, rfl, T, q⟩ := h
  obtain ⟨xs, hx, sx⟩ := T.la
  have n1 := T.na
  refine s_retL (el_lcL (fun i => r.any (Rh06.isIn (l.getD i (0, 0)))) (fun i => xs.getD i .non) (ev_var rfl) (sq_of (K := K) hx) (by rw [sx.len]; omega) (fun _ => rfl) (fun i x H1 e1 hi => ?_) (fun i x H1 e1 hi _ => ?_)) fun p H1 np e1 hp => ?_
  · obtain ⟨s, hs, hy⟩ := sx.get hi
    rw [List.getD_eq_getElem?_getD, hs]
    exact et_B (ev_call (ea_cons (ev_var rfl) (ea_cons (ev_var rfl) ea_nil)) fun H2 e2 Q k E => ⟨x, b, s, r, rfl, hy.ex (e1.trans e2), (T.lb.ex (e1.trans e2)).at, T.nb, k⟩)
  · rw [List.getD_eq_getElem?_getD, hi]
    exact ev_var rfl
  · refine q p _ H1 np e1 hp ?_
    have e0 : jInside l r = l.filter (fun s => r.any (Rh06.isIn s)) := List.filter_congr fun s _ => by rw [Ns.inside_any T.rb]
    rw [e0]
    exact (sts_given sx (fun s => r.any (Rh06.isIn s))).ex e1
theorem c_around {f : Addr} {fd : FuncData} (D : C8.Def K mg "around_of" sAround f fd) (b : Binds K fd ["left", "right"] []) (L : C8.Cal P w K mg base 2 "holds_some" (spSome K (fun s o => Rh06.isIn o s)) []) : C8.Cal P w K mg base 3 "around_of" (spJoin jAround) [] := by
  have sc : FnScope ["left", "right", "stretch"] ["left", "right"] (C8.fnScope sAround) := C8.fnScope_by (by decide +kernel)
  refine C8.cal0 D b .nil sc (fun vs H Q E h => spJoin_len h) (fun cdv A outer s H vs Q E hr h => ⟨_, pss_one (ps_ret
    (pe_lc (own := [("stretch", 2)]) (g := gName 2) rfl sc.nd (pi_list (pv 0)) (blkOk_by (N := ["left", "right", "stretch"]) (sc := C8.fnScope sAround) (by decide +kernel))
      (fun _ _ _ _ _ => pg_name (i := 2) sc.nd rfl (Or.inl rfl)) (fun _ _ _ _ _ => pts_one (pt_val (C8.pe_c L hr (by decide) rfl (pa_cons (pv 2) (pa_cons (pv 1) pa_nil))))) (fun _ _ _ _ _ => pv 2))), ?_⟩)
  obtain ⟨a, b, l, r, rfl, T, q⟩ := h
  obtain ⟨xs, hx, sx⟩ := T.la
  have n1 := T.na
  refine s_retL (el_lcL (fun i => r.any ((fun s o => Rh06.isIn o s) (l.getD i (0, 0)))) (fun i => xs.getD i .non) (ev_var rfl) (sq_of (K := K) hx) (by rw [sx.len]; omega) (fun _ => rfl) (fun i x H1 e1 hi => ?_) (fun i x H1 e1 hi _ => ?_)) fun p H1 np e1 hp => ?_
  · obtain ⟨s, hs, hy⟩ := sx.get hi
    rw [List.getD_eq_getElem?_getD, hs]
    exact et_B (ev_call (ea_cons (ev_var rfl) (ea_cons (ev_var rfl) ea_nil)) fun H2 e2 Q k E => ⟨x, b, s, r, rfl, hy.ex (e1.trans e2), (T.lb.ex (e1.trans e2)).at, T.nb, k⟩)
  · rw [List.getD_eq_getElem?_getD, hi]
    exact ev_var rfl
  · refine q p _ H1 np e1 hp ?_
    have e0 : jAround l r = l.filter (fun s => r.any ((fun s o => Rh06.isIn o s) s)) := List.filter_congr fun s _ => by rw [Ns.around_any T.rb]
    rw [e0]
    exact (sts_given sx (fun s => r.any ((fun s o => Rh06.isIn o s) s))).ex e1
theorem c_apart {f : Addr} {fd : FuncData} (D : C8.Def K mg "apart_of" sApart f fd) (b : Binds K fd ["left", "right"] []) (L : C8.Cal P w K mg base 2 "meets_some" (spSome K Ns.shares) []) : C8.Cal P w K mg base 3 "apart_of" (spJoin jApart) [] := by
  have sc : FnScope ["left", "right", "stretch"] ["left", "right"] (C8.fnScope sApart) := C8.fnScope_by (by decide +kernel)
  refine C8.cal0 D b .nil sc (fun vs H Q E h => spJoin_len h) (fun cdv A outer s H vs Q E hr h => ⟨_, pss_one (ps_ret
    (pe_lc (own := [("stretch", 2)]) (g := gName 2) rfl sc.nd (pi_list (pv 0)) (blkOk_by (N := ["left", "right", "stretch"]) (sc := C8.fnScope sApart) (by decide +kernel))
      (fun _ _ _ _ _ => pg_name (i := 2) sc.nd rfl (Or.inl rfl)) (fun _ _ _ _ _ => pts_one (pt_not (pt_val (C8.pe_c L hr (by decide) rfl (pa_cons (pv 2) (pa_cons (pv 1) pa_nil)))))) (fun _ _ _ _ _ => pv 2))), ?_⟩)
  obtain ⟨a, b, l, r, rfl, T, q⟩ := h
  obtain ⟨xs, hx, sx⟩ := T.la
  have n1 := T.na
  refine s_retL (el_lcL (fun i => !r.any (Ns.shares (l.getD i (0, 0)))) (fun i => xs.getD i .non) (ev_var rfl) (sq_of (K := K) hx) (by rw [sx.len]; omega) (fun _ => rfl) (fun i x H1 e1 hi => ?_) (fun i x H1 e1 hi _ => ?_)) fun p H1 np e1 hp => ?_
  · obtain ⟨s, hs, hy⟩ := sx.get hi
    rw [List.getD_eq_getElem?_getD, hs]
    exact et_not (et_B (ev_call (ea_cons (ev_var rfl) (ea_cons (ev_var rfl) ea_nil)) fun H2 e2 Q k E => ⟨x, b, s, r, rfl, hy.ex (e1.trans e2), (T.lb.ex (e1.trans e2)).at, T.nb, k⟩))
  · rw [List.getD_eq_getElem?_getD, hi]
    exact ev_var rfl
  · refine q p _ H1 np e1 hp ?_
    have e0 : jApart l r = l.filter (fun s => !r.any (Ns.shares s)) := List.filter_congr fun s _ => by rw [Ns.meets_any T.rb]
    rw [e0]
    exact (sts_given sx (fun s => !r.any (Ns.shares s))).ex e1
theorem c_without {f : Addr} {fd : FuncData} (D : C8.Def K mg "without_of" sWithout f fd) (b : Binds K fd ["left", "right"] []) (L : C8.Cal P w K mg base 2 "holds_some" (spSome K (fun s o => Rh06.isIn o s)) []) : C8.Cal P w K mg base 3 "without_of" (spJoin jWithout) [] := by
  have sc : FnScope ["left", "right", "stretch"] ["left", "right"] (C8.fnScope sWithout) := C8.fnScope_by (by decide +kernel)
  refine C8.cal0 D b .nil sc (fun vs H Q E h => spJoin_len h) (fun cdv A outer s H vs Q E hr h => ⟨_, pss_one (ps_ret
    (pe_lc (own := [("stretch", 2)]) (g := gName 2) rfl sc.nd (pi_list (pv 0)) (blkOk_by (N := ["left", "right", "stretch"]) (sc := C8.fnScope sWithout) (by decide +kernel))
      (fun _ _ _ _ _ => pg_name (i := 2) sc.nd rfl (Or.inl rfl)) (fun _ _ _ _ _ => pts_one (pt_not (pt_val (C8.pe_c L hr (by decide) rfl (pa_cons (pv 2) (pa_cons (pv 1) pa_nil)))))) (fun _ _ _ _ _ => pv 2))), ?_⟩)
  obtain ⟨a, b, l, r, rfl, T, q⟩ := h
  obtain ⟨xs, hx, sx⟩ := T.la
  have n1 := T.na
  refine s_retL (el_lcL (fun i => !r.any ((fun s o => Rh06.isIn o s) (l.getD i (0, 0)))) (fun i => xs.getD i .non) (ev_var rfl) (sq_of (K := K) hx) (by rw [sx.len]; omega) (fun _ => rfl) (fun i x H1 e1 hi => ?_) (fun i x H1 e1 hi _ => ?_)) fun p H1 np e1 hp => ?_
  · obtain ⟨s, hs, hy⟩ := sx.get hi
    rw [List.getD_eq_getElem?_getD, hs]
    exact et_not (et_B (ev_call (ea_cons (ev_var rfl) (ea_cons (ev_var rfl) ea_nil)) fun H2 e2 Q k E => ⟨x, b, s, r, rfl, hy.ex (e1.trans e2), (T.lb.ex (e1.trans e2)).at, T.nb, k⟩))
  · rw [List.getD_eq_getElem?_getD, hi]
    exact ev_var rfl
  · refine q p _ H1 np e1 hp ?_
    have e0 : jWithout l r = l.filter (fun s => !r.any ((fun s o => Rh06.isIn o s) s)) := List.filter_congr fun s _ => by rw [Ns.around_any T.rb]
    rw [e0]
    exact (sts_given sx (fun s => !r.any ((fun s o => Rh06.isIn o s) s))).ex e1
theorem c_outside {f : Addr} {fd : FuncData} (D : C8.Def K mg "outside_of" sOutside f fd) (b : Binds K fd ["left", "right"] []) (L : C8.Cal P w K mg base 2 "lies_in_some" (spSome K Rh06.isIn) []) : C8.Cal P w K mg base 3 "outside_of" (spJoin jOutside) [] := by
  have sc : FnScope ["left", "right", "stretch"] ["left", "right"] (C8.fnScope sOutside) := C8.fnScope_by (by decide +kernel)
  refine C8.cal0 D b .nil sc (fun vs H Q E h => spJoin_len h) (fun cdv A outer s H vs Q E hr h => ⟨_, pss_one (ps_ret
    (pe_lc (own := [("stretch", 2)]) (g := gName 2) rfl sc.nd (pi_list (pv 0)) (blkOk_by (N := ["left", "right", "stretch"]) (sc := C8.fnScope sOutside) (by decide +kernel))
      (fun _ _ _ _ _ => pg_name (i := 2) sc.nd rfl (Or.inl rfl)) (fun _ _ _ _ _ => pts_one (pt_not (pt_val (C8.pe_c L hr (by decide) rfl (pa_cons (pv 2) (pa_cons (pv 1) pa_nil)))))) (fun _ _ _ _ _ => pv 2))), ?_⟩)
  obtain ⟨a, b, l, r, rfl, T, q⟩ := h
  obtain ⟨xs, hx, sx⟩ := T.la
  have n1 := T.na
  refine s_retL (el_lcL (fun i => !r.any (Rh06.isIn (l.getD i (0, 0)))) (fun i => xs.getD i .non) (ev_var rfl) (sq_of (K := K) hx) (by rw [sx.len]; omega) (fun _ => rfl) (fun i x H1 e1 hi => ?_) (fun i x H1 e1 hi _ => ?_)) fun p H1 np e1 hp => ?_
  · obtain ⟨s, hs, hy⟩ := sx.get hi
    rw [List.getD_eq_getElem?_getD, hs]
    exact et_not (et_B (ev_call (ea_cons (ev_var rfl) (ea_cons (ev_var rfl) ea_nil)) fun H2 e2 Q k E => ⟨x, b, s, r, rfl, hy.ex (e1.trans e2), (T.lb.ex (e1.trans e2)).at, T.nb, k⟩))
  · rw [List.getD_eq_getElem?_getD, hi]
    exact ev_var rfl
  · refine q p _ H1 np e1 hp ?_
    have e0 : jOutside l r = l.filter (fun s => !r.any (Rh06.isIn s)) := List.filter_congr fun s _ => by rw [Ns.inside_any T.rb]
    rw [e0]
    exact (sts_given sx (fun s => !r.any (Rh06.isIn s))).ex e1
end
end Nr

set_option Elab.async false
set_option linter.all false
set_option maxRecDepth 100000
set_option maxHeartbeats 2000000
namespace Nr
open PySem PySem.Spec PyProof.Rows L2 Evl
open Rh06 (Stretch)
/-! ### places_of_word -/
theorem walk_count {K : PySem.W.Frag} {c0 : Int} {a : Addr} {xs : List V} : Walk (NsR.ItC K c0 a) xs.length (fun H => SqL K H a xs) (YPair (fun i => some (.int (c0 + (i : Nat)))) (fun i => xs[i]?)) := by
  constructor
  · exact fun i H lt at_ => ⟨xs, xs[i], at_, List.getElem?_eq_getElem lt⟩
  · exact fun H at_ => ⟨xs, at_, Nat.le_refl _⟩
  · rintro i H v H' - at_ ⟨T, x, e1, e2, e3, e4⟩
    exact ⟨T, _, x, e1, e2, e3, rfl, e4 xs at_⟩
theorem places_snoc (w : Nat) : ∀ (t : List Nat) (p x : Nat), Rh06.places w p (t ++ [x]) = Rh06.places w p t ++ (if x = w then [(p + t.length, p + t.length)] else [])
  | [], p, x => by
    rw [List.nil_append, Rh06.places, Rh06.places, List.length_nil, Nat.add_zero]
    split <;> simp [Rh06.places]
  | y :: t, p, x => by
    have e : p + 1 + t.length = p + (y :: t).length := by rw [List.length_cons]; omega
    rw [List.cons_append, Rh06.places, Rh06.places, places_snoc w t (p + 1) x, e]
    by_cases c : y = w
    · rw [if_pos c, if_pos c]
      rfl
    · rw [if_neg c, if_neg c]
/-- a list of words is to be read at a -/
def WAt (K : PySem.W.Frag) (H : Hp) (a : Addr) (t : List Nat) : Prop := SqL K H a (t.map fun (n : Nat) => V.int (n : Int))
def spPlaces (K : PySem.W.Frag) : Sp := fun vs H Q _ => ∃ (a : Addr) (t : List Nat) (wd : Nat), vs = [.ref a, .int (wd : Int)] ∧ WAt K H a t ∧ t.length ≤ 1000 ∧ RetS (Rh06.places wd 1 t) H Q
section
variable {P : Program} {w : World} {K : PySem.W.Frag} {mg : Str → Option Value} {base : Heap}
theorem c_places {f : Addr} {fd : FuncData} (D : C8.Def K mg "places_of_word" sPlaces f fd) (b : Binds K fd ["words", "word"] []) (me : mg "enumerate" = none) : C8.Cal P w K mg base 1 "places_of_word" (spPlaces K) [] := by
  have sc : FnScope ["words", "word", "place", "each"] ["words", "word"] (C8.fnScope sPlaces) := C8.fnScope_by (by decide +kernel)
  refine C8.cal0 D b .nil sc (fun vs H Q E h => ?_) (fun cdv A outer s H vs Q E hr h => ⟨_, pss_one (ps_ret
    (pe_lc (own := [("place", 2), ("each", 3)]) (g := gTup K 2 (gCons (gName 2) (gCons (gName 3) gNil))) rfl sc.nd (NsR.pi_count rfl me (pa_cons (pv 0) pa_nil) (pk_cons pe_int pk_nil)) (blkOk_by (N := ["words", "word", "place", "each"]) (sc := C8.fnScope sPlaces) (by decide +kernel))
      (fun _ _ _ _ _ => pg_tup rfl (pgs_cons (pg_name (i := 2) sc.nd rfl (Or.inl rfl)) (pgs_cons (pg_name (i := 3) sc.nd rfl (Or.inl rfl)) pgs_nil)))
      (fun _ _ _ _ _ => pts_one (pt_cmpR op_eq (pv 3) (pv 1) (nomark _))) (fun _ _ _ _ _ => pe_tup (pa_cons (pv 2) (pa_cons (pv 2) pa_nil))))), ?_⟩)
  · obtain ⟨a, t, wd, rfl, _⟩ := h
    rfl
  · obtain ⟨a, t, wd, rfl, hw, hl, q⟩ := h
    refine ⟨_, rfl, a, _, 1, rfl, rfl, ⟨by decide, by decide⟩, hw, fun Dl hD => lc_it walk_count (fun i H' => Ex H H' ∧ ∃ ks, H' Dl = some (.lst ks) ∧ Sts H' ks (Rh06.places wd 1 (t.take i))) ⟨Ex.new hD, [], upd_same, .nil⟩ (fun i H' _ p => ex_l p.1 hw) ?_ ?_⟩
    · rintro i x H1 H2 hi ⟨e1, ks, hk, sk⟩ ⟨T, c, y, rfl, nT, rfl, hc, hy⟩
      cases hc
      replace hy : (t.map fun (n : Nat) => V.int (n : Int))[i]? = some y := hy
      rw [List.getElem?_map] at hy
      cases ht : t[i]? with
      | none => rw [ht] at hy; cases hy
      | some n =>
        rw [ht] at hy
        cases hy
        have e2 : Ex H1 (upd H1 T (.tup [.int (1 + (i : Int)), .int (n : Int)])) := Ex.new nT
        have lt : i < t.length := (List.getElem?_eq_some_iff.mp ht).1
        have nxt : Rh06.places wd 1 (t.take (i + 1)) = Rh06.places wd 1 (t.take i) ++ (if n = wd then [(1 + i, 1 + i)] else []) := by
          rw [List.take_add_one, ht]
          show Rh06.places wd 1 (t.take i ++ [n]) = _
          rw [places_snoc, List.length_take, Nat.min_eq_left (Nat.le_of_lt lt)]
        have short : ks.length < sizeLine := by
          have h1 := Ns.row_len (t.take i) (.word wd)
          have h2 : (Rh06.row (t.take i) (.word wd)).length = (Rh06.places wd 1 (t.take i)).length := rfl
          rw [List.length_take] at h1
          rw [sk.len]
          exact sz_lt (by omega)
        refine ⟨T, _, rfl, st_of upd_same, rfl, _, _, rfl, _, _, rfl, rfl, rfl, ?_⟩
        have ev : EvT (tTest (tOp rEq (tVar 3) (tVar 1))) [some (.ref a), some (.int (wd : Int)), some (.int (1 + (i : Int))), some (.int (n : Int))] (upd H1 T (.tup [.int (1 + (i : Int)), .int (n : Int)])) (decide (n = wd)) :=
          et_test (ev_is (ev_op (ev_var rfl) (ev_var rfl) (rv_eq rfl)) (by
            congr 1
            rw [decide_eq_decide]
            constructor
            · intro h; injection h with h; omega
            · intro h; rw [h]))
        refine ev _ (Ex.refl _) _ fun H3 e3 => ?_
        by_cases c : n = wd
        · rw [decide_eq_true c]
          refine iteT (eu_tup (H := H3) (ea_cons (ev_var rfl) (ea_cons (ev_var rfl) ea_nil)) (by show 2 ≤ 100000; decide) H3 (Ex.refl H3) _ fun p H4 np e4 hp => ⟨ks, ((e2.trans e3).trans e4) _ _ hk, short, ?_, ?_⟩)
          · exact Ex.mut (((e1.trans e2).trans e3).trans e4) hD
          · refine ⟨ks ++ [.ref p], upd_same, ?_⟩
            rw [nxt, if_pos c]
            have hk4 := ((e2.trans e3).trans e4) _ _ hk
            refine Sts.app ((sk.ex ((e2.trans e3).trans e4)).upd hk4) (.cons (IsSt.upd (s := (1 + i, 1 + i)) ⟨p, rfl, ?_⟩ hk4) .nil)
            rw [hp]
            simp
        · rw [decide_eq_false c]
          refine iteF ⟨(e1.trans e2).trans e3, ks, (e2.trans e3) _ _ hk, ?_⟩
          rw [nxt, if_neg c, List.append_nil]
          exact sk.ex (e2.trans e3)
    · rintro H' ⟨e1, ks, hk, sk⟩
      rw [List.length_map, List.take_length] at sk
      exact q Dl ks H' hD e1 hk sk
end
end Nr

set_option Elab.async false
set_option linter.all false
set_option maxRecDepth 100000
set_option maxHeartbeats 2000000
namespace Nr
open PySem PySem.Spec PyProof.Rows L2 Evl
open Rh06 (Stretch)
/-- a join by its call's number -/
def jn (k : Nat) (l r : List Stretch) : List Stretch := match k with
  | 4 => Rh06.either l r
  | 5 => Rh06.order l r
  | 6 => Rh06.both l r
  | 7 => Rh06.next l r
  | 8 => jInside l r
  | 9 => jAround l r
  | 10 => jApart l r
  | 11 => jWithout l r
  | _ => jOutside l r
def spJoined : Sp := fun vs H Q _ => ∃ (k : Nat) (a b : Addr) (l r : List Stretch), vs = [.int (k : Int), .ref a, .ref b] ∧ 4 ≤ k ∧ k ≤ 12 ∧ Two H a b l r ∧ RetS (jn k l r) H Q
/-- a written number of the module -/
def Num (mg : Str → Option Value) (x : Str) (n : Int) : Prop := ∃ u, mg x = some u ∧ RelV (.int n) u
theorem es_join {σ : L2.St} {H : Hp} {g : List Stretch → List Stretch → List Stretch} {a b : Addr} {l r : List Stretch} {ta : TA} {E : XK} (h : EvA ta σ H [.ref a, .ref b]) (T : Two H a b l r) : EvS (tCall (spJoin g) [] E ta) σ H (g l r) :=
  es_call h fun H1 e Q q E => ⟨a, b, l, r, rfl, T.ex e, q⟩
theorem et_eqN {σ : L2.St} {H : Hp} {ta : TE} {k : Nat} {n : Int} (h : Ev ta σ H (.int (k : Int))) : EvT (tTest (tOp rEq ta (tC (.int n)))) σ H (decide ((k : Int) = n)) :=
  et_test (ev_is (ev_op h ev_c (rv_eq rfl)) (by
    congr 1
    rw [decide_eq_decide]
    exact ⟨fun h => V.int.inj h, fun h => by rw [h]⟩))
section
variable {P : Program} {w : World} {K : PySem.W.Frag} {mg : Str → Option Value} {base : Heap}
structure Joins (P : Program) (w : World) (K : PySem.W.Frag) (mg : Str → Option Value) (base : Heap) : Prop where
  either : C8.Cal P w K mg base 5 "either_of" (spJoin Rh06.either) []
  order : C8.Cal P w K mg base 5 "order_of" (spJoin Rh06.order) []
  both : C8.Cal P w K mg base 5 "both_of" (spJoin Rh06.both) []
  next : C8.Cal P w K mg base 2 "next_of" (spJoin Rh06.next) []
  inside : C8.Cal P w K mg base 3 "inside_of" (spJoin jInside) []
  around : C8.Cal P w K mg base 3 "around_of" (spJoin jAround) []
  apart : C8.Cal P w K mg base 3 "apart_of" (spJoin jApart) []
  without : C8.Cal P w K mg base 3 "without_of" (spJoin jWithout) []
  outside : C8.Cal P w K mg base 3 "outside_of" (spJoin jOutside) []
  nE : Num mg "EITHER" 4
  nO : Num mg "ORDER" 5
  nB : Num mg "BOTH" 6
  nN : Num mg "NEXT" 7
  nI : Num mg "INSIDE" 8
  nA : Num mg "AROUND" 9
  nP : Num mg "APART" 10
  nU : Num mg "WITHOUT" 11
theorem c_joined {f : Addr} {fd : FuncData} (D : C8.Def K mg "joined" sJoined f fd) (b : Binds K fd ["kind", "left", "right"] []) (J : Joins P w K mg base) : C8.Cal P w K mg base 6 "joined" spJoined [] := by
  have sc : FnScope ["kind", "left", "right"] ["kind", "left", "right"] (C8.fnScope sJoined) := C8.fnScope_by (by decide +kernel)
  refine C8.cal0 D b .nil sc (fun vs H Q E h => ?_) (fun cdv A outer s H vs Q E hr h => ⟨_,
    pss_cons (ps_if (pt_cmpR op_eq (pv 0) (C8.pe_gc rfl J.nE) (nomark _)) (pss_one (ps_ret (C8.pe_c J.either hr (by decide) rfl (pa_cons (pv 1) (pa_cons (pv 2) pa_nil))))) pss_nil)
    (pss_cons (ps_if (pt_cmpR op_eq (pv 0) (C8.pe_gc rfl J.nO) (nomark _)) (pss_one (ps_ret (C8.pe_c J.order hr (by decide) rfl (pa_cons (pv 1) (pa_cons (pv 2) pa_nil))))) pss_nil)
    (pss_cons (ps_if (pt_cmpR op_eq (pv 0) (C8.pe_gc rfl J.nB) (nomark _)) (pss_one (ps_ret (C8.pe_c J.both hr (by decide) rfl (pa_cons (pv 1) (pa_cons (pv 2) pa_nil))))) pss_nil)
    (pss_cons (ps_if (pt_cmpR op_eq (pv 0) (C8.pe_gc rfl J.nN) (nomark _)) (pss_one (ps_ret (C8.pe_c J.next hr (by decide) rfl (pa_cons (pv 1) (pa_cons (pv 2) pa_nil))))) pss_nil)
    (pss_cons (ps_if (pt_cmpR op_eq (pv 0) (C8.pe_gc rfl J.nI) (nomark _)) (pss_one (ps_ret (C8.pe_c J.inside hr (by decide) rfl (pa_cons (pv 1) (pa_cons (pv 2) pa_nil))))) pss_nil)
    (pss_cons (ps_if (pt_cmpR op_eq (pv 0) (C8.pe_gc rfl J.nA) (nomark _)) (pss_one (ps_ret (C8.pe_c J.around hr (by decide) rfl (pa_cons (pv 1) (pa_cons (pv 2) pa_nil))))) pss_nil)
    (pss_cons (ps_if (pt_cmpR op_eq (pv 0) (C8.pe_gc rfl J.nP) (nomark _)) (pss_one (ps_ret (C8.pe_c J.apart hr (by decide) rfl (pa_cons (pv 1) (pa_cons (pv 2) pa_nil))))) pss_nil)
    (pss_cons (ps_if (pt_cmpR op_eq (pv 0) (C8.pe_gc rfl J.nU) (nomark _)) (pss_one (ps_ret (C8.pe_c J.without hr (by decide) rfl (pa_cons (pv 1) (pa_cons (pv 2) pa_nil))))) pss_nil)
    (pss_one (ps_ret (C8.pe_c J.outside hr (by decide) rfl (pa_cons (pv 1) (pa_cons (pv 2) pa_nil)))))))))))), ?_⟩)
  · obtain ⟨k, a, b, l, r, rfl, _⟩ := h
    rfl
  · obtain ⟨k, a, b, l, r, rfl, k4, k12, T, q⟩ := h
    have go : ∀ {H1 : Hp} {g : List Stretch → List Stretch → List Stretch} {E : XK} {D : Ends}, D.rt = Q → Ex H H1 → jn k l r = g l r → tRet (tCall (spJoin g) [] E (tCons (tVar 1) (tCons (tVar 2) tNil))) D [some (.int (k : Int)), some (.ref a), some (.ref b)] H1 := fun {H1 g E D} eD e1 ej => by
      refine s_retS (es_join (ea_cons (ev_var rfl) (ea_cons (ev_var rfl) ea_nil)) (T.ex e1)) fun p xs H2 np e2 hp sp => ?_
      rw [eD]
      rw [ej] at q
      exact q p xs H2 (fresh_back e1 np) (e1.trans e2) hp sp
    refine q_when (et_eqN (ev_var rfl)) (fun c H1 e1 => ?_) (fun c1 H1 e1 => ?_)
    · have z : k = 4 := by have := of_decide_eq_true c; omega
      subst z
      exact go rfl e1 rfl
    refine q_when (et_eqN (ev_var rfl)) (fun c H2 e2 => ?_) (fun c2 H2 e2 => ?_)
    · have z : k = 5 := by have := of_decide_eq_true c; omega
      subst z
      exact go rfl (e1.trans e2) rfl
    refine q_when (et_eqN (ev_var rfl)) (fun c H3 e3 => ?_) (fun c3 H3 e3 => ?_)
    · have z : k = 6 := by have := of_decide_eq_true c; omega
      subst z
      exact go rfl ((e1.trans e2).trans e3) rfl
    refine q_when (et_eqN (ev_var rfl)) (fun c H4 e4 => ?_) (fun c4 H4 e4 => ?_)
    · have z : k = 7 := by have := of_decide_eq_true c; omega
      subst z
      exact go rfl (((e1.trans e2).trans e3).trans e4) rfl
    refine q_when (et_eqN (ev_var rfl)) (fun c H5 e5 => ?_) (fun c5 H5 e5 => ?_)
    · have z : k = 8 := by have := of_decide_eq_true c; omega
      subst z
      exact go rfl ((((e1.trans e2).trans e3).trans e4).trans e5) rfl
    refine q_when (et_eqN (ev_var rfl)) (fun c H6 e6 => ?_) (fun c6 H6 e6 => ?_)
    · have z : k = 9 := by have := of_decide_eq_true c; omega
      subst z
      exact go rfl (((((e1.trans e2).trans e3).trans e4).trans e5).trans e6) rfl
    refine q_when (et_eqN (ev_var rfl)) (fun c H7 e7 => ?_) (fun c7 H7 e7 => ?_)
    · have z : k = 10 := by have := of_decide_eq_true c; omega
      subst z
      exact go rfl ((((((e1.trans e2).trans e3).trans e4).trans e5).trans e6).trans e7) rfl
    refine q_when (et_eqN (ev_var rfl)) (fun c H8 e8 => ?_) (fun c8 H8 e8 => ?_)
    · have z : k = 11 := by have := of_decide_eq_true c; omega
      subst z
      exact go rfl (((((((e1.trans e2).trans e3).trans e4).trans e5).trans e6).trans e7).trans e8) rfl
    have z : k = 12 := by
      have := of_decide_eq_false c1
      have := of_decide_eq_false c2
      have := of_decide_eq_false c3
      have := of_decide_eq_false c4
      have := of_decide_eq_false c5
      have := of_decide_eq_false c6
      have := of_decide_eq_false c7
      have := of_decide_eq_false c8
      omega
    subst z
    exact go rfl (((((((e1.trans e2).trans e3).trans e4).trans e5).trans e6).trans e7).trans e8) rfl
end
end Nr

set_option Elab.async false
set_option linter.all false
set_option maxRecDepth 100000
set_option maxHeartbeats 2000000
namespace Nr
open PySem PySem.Spec PyProof.Rows L2 Evl
open Rh06 (Stretch)
/-! ### stretches as data: in, == -/
def stD (s : Stretch) : PyData := .tuple [.int (s.1 : Int), .int (s.2 : Int)]
theorem IsSt.dp {K : PySem.W.Frag} {H : Hp} {v : V} {s : Stretch} : IsSt H v s → Dp K H v (stD s) := fun ⟨t, a, b⟩ => by
  subst a
  exact .tup (st_of b) (.cons (.int _) (.cons (.int _) .nil))
theorem Sts.dp {K : PySem.W.Frag} {H : Hp} : ∀ {xs : List V} {l : List Stretch}, Sts H xs l → DpAll K H xs (l.map stD)
  | _, _, .nil => .nil
  | _, _, .cons a t => .cons a.dp (Sts.dp t)
theorem stD_lay (s : Stretch) : (stD s).canLay0 = true := by simp [stD, PyData.canLay0, PyData.canLayAll0]
theorem stD_depth (s : Stretch) : (stD s).depth = 1 := by simp [stD, PyData.depth, PyData.depthAll]
theorem stDs_lay : ∀ l : List Stretch, PyData.canLayAll0 (l.map stD) = true
  | [] => by simp [PyData.canLayAll0]
  | s :: l => by simp [PyData.canLayAll0, stD_lay s, stDs_lay l]
theorem stDs_depth : ∀ l : List Stretch, PyData.depthAll (l.map stD) ≤ 1
  | [] => by simp [PyData.depthAll]
  | s :: l => by
    have h1 := stDs_depth l
    have h2 := stD_depth s
    simp only [List.map_cons, PyData.depthAll]
    omega
theorem stD_shaped (s : Stretch) : SeqAt.shaped (stD s) = true := by
  unfold SeqAt.shaped
  rw [stD_lay, stD_depth]
  rfl
theorem stDs_shaped (l : List Stretch) : SeqAt.shaped (.list (l.map stD)) = true := by
  have h1 := stDs_depth l
  unfold SeqAt.shaped
  rw [Bool.and_eq_true]
  refine ⟨by simp only [PyData.canLay0]; exact stDs_lay l, decide_eq_true ?_⟩
  simp only [PyData.depth]
  omega
theorem stD_eqv (s r : Stretch) : PyData.eqv (stD s) (stD r) = decide (s = r) := by
  have e : PyData.eqv (stD s) (stD r) = (((s.1 : Int) == (r.1 : Int)) && (((s.2 : Int) == (r.2 : Int)) && true)) := by simp only [stD, PyData.eqv, PyData.eqvAll]
  rw [e, Bool.eq_iff_iff]
  simp only [Bool.and_eq_true, beq_iff_eq, decide_eq_true_eq, Bool.and_true]
  constructor
  · rintro ⟨h1, h2⟩
    exact Prod.ext (by omega) (by omega)
  · rintro rfl
    exact ⟨rfl, rfl⟩
theorem stDs_any (l : List Stretch) (s : Stretch) : ((l.map stD).any fun z => PyData.eqv z (stD s)) = l.contains s := by
  rw [List.any_map, Bool.eq_iff_iff, List.any_eq_true, List.contains_iff_mem]
  constructor
  · rintro ⟨r, m, h⟩
    have : PyData.eqv (stD r) (stD s) = true := h
    rw [stD_eqv, decide_eq_true_eq] at this
    rw [← this]
    exact m
  · intro m
    refine ⟨s, m, ?_⟩
    show PyData.eqv (stD s) (stD s) = true
    rw [stD_eqv, decide_eq_true_eq]
theorem stDs_eqv : ∀ l r : List Stretch, PyData.eqv (.list (l.map stD)) (.list (r.map stD)) = decide (l = r)
  | l, r => by
    have : ∀ l r : List Stretch, PyData.eqvAll (l.map stD) (r.map stD) = decide (l = r) := fun l => by
      induction l with
      | nil => intro r; cases r <;> simp [PyData.eqvAll]
      | cons a l ih =>
        intro r
        cases r with
        | nil => simp [PyData.eqvAll]
        | cons b r =>
          simp only [List.map_cons, PyData.eqvAll, ih, stD_eqv, List.cons.injEq]
          rw [Bool.eq_iff_iff]
          simp
    rw [PyData.eqv]
    exact this l r
section
variable {K : PySem.W.Frag} {σ : L2.St} {H H' : Hp} {ta tb te : TE} {x y v : V}
theorem ev_inSt {a : Addr} {s : Stretch} {l : List Stretch} (h1 : Ev ta σ H x) (h2 : Ev tb σ H (.ref a)) (hx : IsSt H x s) (hl : LAt K H a l) : Ev (tOp (rInD K) ta tb) σ H (.bl (l.contains s)) :=
  ev_op h1 h2 fun H1 e Q q => by
    obtain ⟨xs, h3, h4⟩ := hl.ex e
    refine ⟨stD s, l.map stD, (hx.ex e).dp, .lst h3 h4.dp, stD_shaped s, stDs_shaped l, ?_⟩
    rw [stDs_any]
    exact q H1 (Ex.refl H1)
theorem ev_notInSt {a : Addr} {s : Stretch} {l : List Stretch} (h1 : Ev ta σ H x) (h2 : Ev tb σ H (.ref a)) (hx : IsSt H x s) (hl : LAt K H a l) : Ev (tOp (rNotInD K) ta tb) σ H (.bl (!l.contains s)) :=
  ev_op h1 h2 fun H1 e Q q => by
    obtain ⟨xs, h3, h4⟩ := hl.ex e
    refine ⟨stD s, l.map stD, (hx.ex e).dp, .lst h3 h4.dp, stD_shaped s, stDs_shaped l, ?_⟩
    rw [stDs_any]
    exact q H1 (Ex.refl H1)
theorem ev_eqSt {a b : Addr} {l r : List Stretch} (h1 : Ev ta σ H (.ref a)) (h2 : Ev tb σ H (.ref b)) (hl : LAt K H a l) (hr : LAt K H b r) : Ev (tOp (rEqD K) ta tb) σ H (.bl (decide (l = r))) :=
  ev_op h1 h2 fun H1 e Q q => by
    obtain ⟨xs, h3, h4⟩ := hl.ex e
    obtain ⟨ys, h5, h6⟩ := hr.ex e
    refine ⟨_, _, .lst h3 h4.dp, .lst h5 h6.dp, stDs_shaped l, stDs_shaped r, ?_⟩
    rw [stDs_eqv]
    exact q H1 (Ex.refl H1)
/-- return f(..): what the def promises -/
theorem s_retC {sp : Sp} {dvs vs : List V} {E : XK} {t : TA} {D : Ends} (h : EvA t σ H vs) (hs : ∀ H1, Ex H H1 → sp (vs ++ dvs) H1 D.rt E) : tRet (tCall sp dvs E t) D σ H := h H (Ex.refl H) _ fun H1 e1 => hs H1 e1
/-- kind in (a, b) -/
theorem et_inTwo {k : Nat} {m n : Int} (h : Ev ta σ H (.int (k : Int))) : EvT (tTest (tOp (rIn K false) ta (tTup (tCons (tC (.int m)) (tCons (tC (.int n)) tNil))))) σ H (decide ((k : Int) = m ∨ (k : Int) = n)) := by
  refine et_test (ev_is (ev_inU h (eu_tup (ea_cons ev_c (ea_cons ev_c ea_nil)) (by show 2 ≤ 100000; decide)) rfl rfl) ?_)
  congr 1
  unfold inV
  simp only [List.any_cons, List.any_nil, eqV, Bool.or_false]
  rw [Bool.eq_iff_iff]
  simp only [Bool.or_eq_true, beq_iff_eq, decide_eq_true_eq]
  omega
end
/-- None, or some stretch's value -/
def RetP (o : Option Stretch) (H : Hp) (Q : VK) : Prop := ∀ v H1, Ex H H1 → OptV H1 o v → Q v H1
theorem RetP.o {o : Option Stretch} {H H1 : Hp} {Q : VK} (h : RetP o H Q) (e : Ex H H1) : RetO o H1 Q := RetO.of fun v H2 e2 k => h v H2 (e.trans e2) (k.ex e2)
section
variable {P : Program} {w : World} {K : PySem.W.Frag} {mg : Str → Option Value} {base : Heap}
/-! ### width, bounded -/
def spWidth : Sp := fun vs H Q _ => ∃ x a, vs = [x] ∧ IsSt H x a ∧ RetV (.int ((a.2 : Int) - (a.1 : Int) + 1)) H Q
theorem c_width {f : Addr} {fd : FuncData} (D : C8.Def K mg "width" sWidth f fd) (b : Binds K fd ["stretch"] []) : C8.Cal P w K mg base 1 "width" spWidth [] := by
  refine C8.cal0 D b .nil (C8.fnScope_by (N := ["stretch"]) (by decide +kernel)) (fun vs H Q E h => ?_) (fun cdv A outer s H vs Q E hr h => ⟨_, pss_one (ps_ret (pe_op op_add (pe_op op_sub (pe_ix ix_tup (pv 0) pe_int (fun _ _ => rfl)) (pe_ix ix_tup (pv 0) pe_int (fun _ _ => rfl))) pe_int)), ?_⟩)
  · obtain ⟨x, a, rfl, _⟩ := h
    rfl
  · obtain ⟨x, a, rfl, hx, q⟩ := h
    exact s_ret (ev_op (ev_op (ev_st1 (ev_var rfl) hx) (ev_st0 (ev_var rfl) hx) rv_I0) ev_c rv_I0) q
def spBounded (K : PySem.W.Frag) : Sp := fun vs H Q _ => ∃ (k : Nat) (a : Addr) (l : List Stretch) (n : Nat), vs = [.int (k : Int), .ref a, .int (n : Int)] ∧ LAt K H a l ∧ l.length ≤ 1000 ∧ RetS (Ns.jBound k n l) H Q
theorem c_bounded {f : Addr} {fd : FuncData} (D : C8.Def K mg "bounded" sBounded f fd) (b : Binds K fd ["kind", "stretches", "bound"] []) (W : C8.Cal P w K mg base 1 "width" spWidth []) (nW : Num mg "WITHIN" 13) : C8.Cal P w K mg base 2 "bounded" (spBounded K) [] := by
  have sc : FnScope ["kind", "stretches", "bound", "stretch"] ["kind", "stretches", "bound"] (C8.fnScope sBounded) := C8.fnScope_by (by decide +kernel)
  refine C8.cal0 D b .nil sc (fun vs H Q E h => ?_) (fun cdv A outer s H vs Q E hr h => ⟨_, pss_cons (ps_if (pt_cmpR op_eq (pv 0) (C8.pe_gc rfl nW) (nomark _)) (pss_one (ps_ret
      (pe_lc (own := [("stretch", 3)]) (g := gName 3) rfl sc.nd (pi_list (pv 1)) (blkOk_by (N := ["kind", "stretches", "bound", "stretch"]) (sc := C8.fnScope sBounded) (by decide +kernel))
        (fun _ _ _ _ _ => pg_name (i := 3) sc.nd rfl (Or.inl rfl)) (fun _ _ _ _ _ => pts_one (pt_cmpR op_le (C8.pe_c W hr (by decide) rfl (pa_cons (pv 3) pa_nil)) (pv 2) (nomark _))) (fun _ _ _ _ _ => pv 3)))) pss_nil)
    (pss_one (ps_ret
      (pe_lc (own := [("stretch", 3)]) (g := gName 3) (tt := tTest (tOp (rI0 fun i j => V.bl (decide (i ≤ j))) (tOp (rIxT K) (tVar 3) (tC (.int 1))) (tVar 2))) rfl sc.nd (pi_list (pv 1)) (blkOk_by (N := ["kind", "stretches", "bound", "stretch"]) (sc := C8.fnScope sBounded) (by decide +kernel))
        (fun _ _ _ _ _ => pg_name (i := 3) sc.nd rfl (Or.inl rfl)) (fun _ _ _ _ _ => pts_one (pt_cmpR op_le (pe_ix ix_tup (pv 3) pe_int (fun _ _ => rfl)) (pv 2) (nomark _))) (fun _ _ _ _ _ => pv 3)))), ?_⟩)
  · obtain ⟨k, a, l, n, rfl, _⟩ := h
    rfl
  · obtain ⟨k, a, l, n, rfl, hl, hn, q⟩ := h
    refine q_when (et_eqN (ev_var rfl)) (fun c H1 e1 => ?_) (fun c H1 e1 => ?_)
    · have z : k = 13 := by have := of_decide_eq_true c; omega
      obtain ⟨xs, hx, sx⟩ := hl.ex e1
      refine s_retL (el_lcL (fun i => decide (Rh06.wide (l.getD i (0, 0)) ≤ n)) (fun i => xs.getD i .non) (ev_var rfl) hx (by rw [sx.len]; omega) (fun _ => rfl) (fun i x H2 e2 hi => ?_) (fun i x H2 e2 hi _ => ?_)) fun p H2 np e2 hp => ?_
      · obtain ⟨s, hs, hy⟩ := sx.get hi
        rw [List.getD_eq_getElem?_getD, hs]
        refine et_test (ev_is (ev_op (ev_call (ea_cons (ev_var rfl) ea_nil) fun H3 e3 Q k E => ⟨x, s, rfl, hy.ex (e2.trans e3), k⟩) (ev_var rfl) rv_I0) ?_)
        congr 1
        rw [decide_eq_decide]
        show _ ↔ s.2 + 1 - s.1 ≤ n
        omega
      · rw [List.getD_eq_getElem?_getD, hi]
        exact ev_var rfl
      · refine q p _ H2 (fresh_back e1 np) (e1.trans e2) hp ?_
        unfold Ns.jBound
        rw [if_pos z]
        exact (sts_given sx (fun s => decide (Rh06.wide s ≤ n))).ex e2
    · have z : k ≠ 13 := by have := of_decide_eq_false c; omega
      obtain ⟨xs, hx, sx⟩ := hl.ex e1
      refine s_retL (el_lcL (fun i => decide ((l.getD i (0, 0)).2 ≤ n)) (fun i => xs.getD i .non) (ev_var rfl) hx (by rw [sx.len]; omega) (fun _ => rfl) (fun i x H2 e2 hi => ?_) (fun i x H2 e2 hi _ => ?_)) fun p H2 np e2 hp => ?_
      · obtain ⟨s, hs, hy⟩ := sx.get hi
        rw [List.getD_eq_getElem?_getD, hs]
        refine et_test (ev_is (ev_op (ev_st1 (ev_var rfl) (hy.ex e2)) (ev_var rfl) rv_I0) ?_)
        congr 1
        rw [decide_eq_decide]
        show _ ↔ s.2 ≤ n
        omega
      · rw [List.getD_eq_getElem?_getD, hi]
        exact ev_var rfl
      · refine q p _ H2 (fresh_back e1 np) (e1.trans e2) hp ?_
        unfold Ns.jBound
        rw [if_neg z]
        exact (sts_given sx (fun s => decide (s.2 ≤ n))).ex e2
/-! ### which stretches make one -/
def spFirstIn (K : PySem.W.Frag) : Sp := fun vs H Q _ => ∃ (a : Addr) (l : List Stretch) (y : V) (o : Stretch), vs = [.ref a, y] ∧ LAt K H a l ∧ IsSt H y o ∧ RetO (Ns.inFirst l o) H Q
theorem c_firstIn {f : Addr} {fd : FuncData} (D : C8.Def K mg "first_that_lies_in" sFirstIn f fd) (b : Binds K fd ["stretches", "outer"] []) (L : C8.Cal P w K mg base 1 "lies_in" spLies []) : C8.Cal P w K mg base 2 "first_that_lies_in" (spFirstIn K) [] := by
  have sc : FnScope ["stretches", "outer", "stretch"] ["stretches", "outer"] (C8.fnScope sFirstIn) := C8.fnScope_by (by decide +kernel)
  refine C8.cal0 D b .nil sc (fun vs H Q E h => ?_) (fun cdv A outer s H vs Q E hr h => ⟨_, pss_cons (ps_for PassesOwn.never rfl (pi_list (pv 0)) (pg_name (i := 2) sc.nd rfl (Or.inl rfl))
      (pss_one (ps_if (pt_val (C8.pe_c L hr (by decide) rfl (pa_cons (pv 2) (pa_cons (pv 1) pa_nil)))) (pss_one (ps_ret (pv 2))) pss_nil)))
    (pss_one (ps_ret pe_non)), ?_⟩)
  · obtain ⟨a, l, y, o, rfl, _⟩ := h
    rfl
  · obtain ⟨a, l, y, o, rfl, ⟨xs, hxs, hst⟩, hy, q⟩ := h
    refine q_forLn (ev_var rfl) hxs (fun i σ' H' => ∃ v, σ' = [some (.ref a), some y, v] ∧ Ex H H' ∧ ∀ s ∈ l.take i, Rh06.isIn s o = false) (fun H1 e1 => ⟨none, rfl, e1, fun s m => by rw [List.take_zero] at m; cases m⟩)
      (fun i σ' H' _ ⟨_, _, e, _⟩ => ex_l e hxs) ?_ ?_
    · rintro i x σ' H' hx ⟨v, rfl, e, hn⟩
      obtain ⟨s, hs, hsx⟩ := hst.get hx
      refine s_when (b := Rh06.isIn s o) (et_B (ev_call (ea_cons (ev_var rfl) (ea_cons (ev_var rfl) ea_nil)) fun H2 e2 Q k E => ⟨x, y, s, o, rfl, hsx.ex (e.trans e2), hy.ex (e.trans e2), k⟩)) (fun hb H1 e1 => ?_) (fun hb H1 e1 => ?_)
      · have found : Ns.inFirst l o = some s := by
          unfold Ns.inFirst
          rw [List.find?_eq_some_iff_append]
          refine ⟨hb, l.take i, l.drop (i + 1), ?_, fun a m => by rw [hn a m]; rfl⟩
          have hi : i < l.length := (List.getElem?_eq_some_iff.mp hs).1
          have hg : l[i] = s := (List.getElem?_eq_some_iff.mp hs).2
          rw [← hg, ← List.drop_eq_getElem_cons hi, List.take_append_drop]
        exact s_ret (v := x) (ev_var rfl) fun H2 e2 => (q.ex ((e.trans e1).trans e2)).2 s x found hsx
      · refine ⟨some x, rfl, e.trans e1, fun t m => ?_⟩
        rw [take_succ hs] at m
        rcases List.mem_append.mp m with m | m
        · exact hn t m
        · rw [List.mem_singleton.mp m]
          exact hb
    · rintro σ' H' ⟨v, rfl, e, hn⟩
      have none_ : Ns.inFirst l o = none := by
        unfold Ns.inFirst
        rw [List.find?_eq_none]
        intro s m
        rw [hst.len, List.take_length] at hn
        rw [hn s m]
        decide
      exact s_ret (v := .non) ev_c fun H2 e2 => (q.ex (e.trans e2)).1 none_
def spLeft (K : PySem.W.Frag) : Sp := fun vs H Q _ => ∃ (k : Nat) (x : V) (s : Stretch) (a : Addr) (l : List Stretch), vs = [.int (k : Int), x, .ref a] ∧ IsSt H x s ∧ LAt K H a l ∧ RetP (Ns.leftM k s l) H Q
def spRight (K : PySem.W.Frag) : Sp := fun vs H Q _ => ∃ (k : Nat) (x : V) (s : Stretch) (a b : Addr) (l r : List Stretch), vs = [.int (k : Int), x, .ref a, .ref b] ∧ IsSt H x s ∧ LAt K H a l ∧ LAt K H b r ∧ RetP (Ns.rightM k s l r) H Q
structure Makes (P : Program) (w : World) (K : PySem.W.Frag) (mg : Str → Option Value) (base : Heap) : Prop where
  from_ : C8.Cal P w K mg base 1 "first_from" (spFirstFrom K) []
  by_ : C8.Cal P w K mg base 1 "last_by" (spLastBy K) []
  in_ : C8.Cal P w K mg base 2 "first_that_lies_in" (spFirstIn K) []
  nE : Num mg "EITHER" 4
  nO : Num mg "ORDER" 5
  nB : Num mg "BOTH" 6
  nN : Num mg "NEXT" 7
  nA : Num mg "AROUND" 9
theorem hu65 {k : Nat} {A : Around} (r : Room k A) : A.units + 65 < cLine := by have := r.un; omega
theorem c_left {f : Addr} {fd : FuncData} (D : C8.Def K mg "left_maker" sLeftMaker f fd) (b : Binds K fd ["kind", "stretch", "left"] []) (J : Makes P w K mg base) : C8.Cal P w K mg base 3 "left_maker" (spLeft K) [] := by
  have sc : FnScope ["kind", "stretch", "left"] ["kind", "stretch", "left"] (C8.fnScope sLeftMaker) := C8.fnScope_by (by decide +kernel)
  refine C8.cal0 D b .nil sc (fun vs H Q E h => ?_) (fun cdv A outer s H vs Q E hr h => ⟨_,
    pss_cons (ps_if (pt_cmpR op_eq (pv 0) (C8.pe_gc rfl J.nE) (nomark _)) (pss_one (ps_ret (pe_ifExp (pt_cmpR (op_inD (hu65 hr)) (pv 1) (pv 2) rfl) (pv 1) pe_non))) pss_nil)
    (pss_cons (ps_if (pt_cmpR op_in_seq (pv 0) (pe_tup (pa_cons (C8.pe_gc rfl J.nO) (pa_cons (C8.pe_gc rfl J.nN) pa_nil))) rfl) (pss_one (ps_ret (C8.pe_c J.from_ hr (by decide) rfl (pa_cons (pv 2) (pa_cons (pe_ix ix_tup (pv 1) pe_int (fun _ _ => rfl)) pa_nil))))) pss_nil)
    (pss_cons (ps_if (pt_cmpR op_eq (pv 0) (C8.pe_gc rfl J.nB) (nomark _)) (pss_one (ps_ret (C8.pe_c J.in_ hr (by decide) rfl (pa_cons (pv 2) (pa_cons (pv 1) pa_nil))))) pss_nil)
    (pss_one (ps_ret (pv 1))))), ?_⟩)
  · obtain ⟨k, x, s, a, l, rfl, _⟩ := h
    rfl
  · obtain ⟨k, x, s, a, l, rfl, hx, hl, q⟩ := h
    unfold Ns.leftM at q
    refine q_when (et_eqN (ev_var rfl)) (fun c H1 e1 => ?_) (fun c1 H1 e1 => ?_)
    · rw [if_pos (by have := of_decide_eq_true c; omega)] at q
      by_cases cc : l.contains s = true
      · rw [if_pos cc] at q
        exact s_ret (v := x) (ev_if (b := true) (et_is (et_test (ev_inSt (K := K) (ev_var rfl) (ev_var rfl) (hx.ex e1) (hl.ex e1))) cc) (fun _ => ev_var rfl) (fun h => nomatch h)) fun H2 e2 => q x H2 (e1.trans e2) (hx.ex (e1.trans e2))
      · rw [if_neg cc] at q
        exact s_ret (v := .non) (ev_if (b := false) (et_is (et_test (ev_inSt (K := K) (ev_var rfl) (ev_var rfl) (hx.ex e1) (hl.ex e1))) (by simpa using cc)) (fun h => nomatch h) (fun _ => ev_c)) fun H2 e2 => q .non H2 (e1.trans e2) rfl
    rw [if_neg (by have := of_decide_eq_false c1; omega)] at q
    refine q_when (et_inTwo (ev_var rfl)) (fun c H2 e2 => ?_) (fun c2 H2 e2 => ?_)
    · rw [if_pos (by have := of_decide_eq_true c; omega)] at q
      exact s_retC (ea_cons (ev_var rfl) (ea_cons (ev_st0 (ev_var rfl) (hx.ex (e1.trans e2))) ea_nil)) fun H3 e3 => ⟨a, l, s.1, rfl, hl.ex ((e1.trans e2).trans e3), q.o ((e1.trans e2).trans e3)⟩
    rw [if_neg (by have := of_decide_eq_false c2; omega)] at q
    refine q_when (et_eqN (ev_var rfl)) (fun c H3 e3 => ?_) (fun c3 H3 e3 => ?_)
    · rw [if_pos (by have := of_decide_eq_true c; omega)] at q
      exact s_retC (ea_cons (ev_var rfl) (ea_cons (ev_var rfl) ea_nil)) fun H4 e4 => ⟨a, l, x, s, rfl, hl.ex (((e1.trans e2).trans e3).trans e4), hx.ex (((e1.trans e2).trans e3).trans e4), q.o (((e1.trans e2).trans e3).trans e4)⟩
    rw [if_neg (by have := of_decide_eq_false c3; omega)] at q
    exact s_ret (v := x) (ev_var rfl) fun H4 e4 => q x H4 (((e1.trans e2).trans e3).trans e4) (hx.ex (((e1.trans e2).trans e3).trans e4))
theorem c_right {f : Addr} {fd : FuncData} (D : C8.Def K mg "right_maker" sRightMaker f fd) (b : Binds K fd ["kind", "stretch", "left", "right"] []) (J : Makes P w K mg base) : C8.Cal P w K mg base 3 "right_maker" (spRight K) [] := by
  have sc : FnScope ["kind", "stretch", "left", "right"] ["kind", "stretch", "left", "right"] (C8.fnScope sRightMaker) := C8.fnScope_by (by decide +kernel)
  refine C8.cal0 D b .nil sc (fun vs H Q E h => ?_) (fun cdv A outer s H vs Q E hr h => ⟨_,
    pss_cons (ps_if (pt_cmpR op_eq (pv 0) (C8.pe_gc rfl J.nE) (nomark _)) (pss_one (ps_ret (pe_ifExp (pt_cmpR (op_inD (hu65 hr)) (pv 1) (pv 2) rfl) pe_non (pv 1)))) pss_nil)
    (pss_cons (ps_if (pt_cmpR op_in_seq (pv 0) (pe_tup (pa_cons (C8.pe_gc rfl J.nO) (pa_cons (C8.pe_gc rfl J.nN) pa_nil))) rfl) (pss_one (ps_ret (C8.pe_c J.by_ hr (by decide) rfl (pa_cons (pv 3) (pa_cons (pe_ix ix_tup (pv 1) pe_int (fun _ _ => rfl)) pa_nil))))) pss_nil)
    (pss_cons (ps_if (pt_cmpR op_in_seq (pv 0) (pe_tup (pa_cons (C8.pe_gc rfl J.nB) (pa_cons (C8.pe_gc rfl J.nA) pa_nil))) rfl) (pss_one (ps_ret (C8.pe_c J.in_ hr (by decide) rfl (pa_cons (pv 3) (pa_cons (pv 1) pa_nil))))) pss_nil)
    (pss_one (ps_ret pe_non)))), ?_⟩)
  · obtain ⟨k, x, s, a, b, l, r, rfl, _⟩ := h
    rfl
  · obtain ⟨k, x, s, a, b, l, r, rfl, hx, hl, hr', q⟩ := h
    unfold Ns.rightM at q
    refine q_when (et_eqN (ev_var rfl)) (fun c H1 e1 => ?_) (fun c1 H1 e1 => ?_)
    · rw [if_pos (by have := of_decide_eq_true c; omega)] at q
      by_cases cc : l.contains s = true
      · rw [if_pos cc] at q
        exact s_ret (v := .non) (ev_if (b := true) (et_is (et_test (ev_inSt (K := K) (ev_var rfl) (ev_var rfl) (hx.ex e1) (hl.ex e1))) cc) (fun _ => ev_c) (fun h => nomatch h)) fun H2 e2 => q .non H2 (e1.trans e2) rfl
      · rw [if_neg cc] at q
        exact s_ret (v := x) (ev_if (b := false) (et_is (et_test (ev_inSt (K := K) (ev_var rfl) (ev_var rfl) (hx.ex e1) (hl.ex e1))) (by simpa using cc)) (fun h => nomatch h) (fun _ => ev_var rfl)) fun H2 e2 => q x H2 (e1.trans e2) (hx.ex (e1.trans e2))
    rw [if_neg (by have := of_decide_eq_false c1; omega)] at q
    refine q_when (et_inTwo (ev_var rfl)) (fun c H2 e2 => ?_) (fun c2 H2 e2 => ?_)
    · rw [if_pos (by have := of_decide_eq_true c; omega)] at q
      exact s_retC (ea_cons (ev_var rfl) (ea_cons (ev_st1 (ev_var rfl) (hx.ex (e1.trans e2))) ea_nil)) fun H3 e3 => ⟨b, r, s.2, rfl, hr'.ex ((e1.trans e2).trans e3), q.o ((e1.trans e2).trans e3)⟩
    rw [if_neg (by have := of_decide_eq_false c2; omega)] at q
    refine q_when (et_inTwo (ev_var rfl)) (fun c H3 e3 => ?_) (fun c3 H3 e3 => ?_)
    · rw [if_pos (by have := of_decide_eq_true c; omega)] at q
      exact s_retC (ea_cons (ev_var rfl) (ea_cons (ev_var rfl) ea_nil)) fun H4 e4 => ⟨b, r, x, s, rfl, hr'.ex (((e1.trans e2).trans e3).trans e4), hx.ex (((e1.trans e2).trans e3).trans e4), q.o (((e1.trans e2).trans e3).trans e4)⟩
    rw [if_neg (by have := of_decide_eq_false c3; omega)] at q
    exact s_ret (v := .non) ev_c fun H4 e4 => q .non H4 (((e1.trans e2).trans e3).trans e4) rfl
end
end Nr

set_option Elab.async false
set_option linter.all false
set_option maxRecDepth 100000
set_option maxHeartbeats 2000000
namespace Nr
open PySem PySem.Spec PyProof.Rows L2 Evl
open Rh06 (Stretch)
/-! ### attributes -/
theorem lk_here {k : Str} {v : V} {r : List (Str × V)} : List.lookup k ((k, v) :: r) = some v := by
  have e : (k == k) = true := beq_self_eq_true k
  simp only [List.lookup, e]
theorem lk_past {k g : Str} {v : V} {r : List (Str × V)} (h : (k == g) = false) : List.lookup k ((g, v) :: r) = List.lookup k r := by
  simp only [List.lookup, h]
theorem put_here {f : Str} {v x : V} {r : List (Str × V)} : putF f v ((f, x) :: r) = (f, v) :: r := if_pos rfl
theorem put_past {f g : Str} {v x : V} {r : List (Str × V)} (h : ¬ g = f) : putF f v ((g, x) :: r) = (g, x) :: putF f v r := if_neg h
theorem putF_len (f : Str) (v : V) : ∀ fs : List (Str × V), (putF f v fs).length ≤ fs.length + 1
  | [] => Nat.le_refl _
  | (g, x) :: r => by
    unfold putF
    split
    · exact Nat.le_succ _
    · exact Nat.succ_le_succ (putF_len f v r)
theorem ev_fld {K : PySem.W.Frag} {σ : L2.St} {H : Hp} {ta : TE} {f : Str} {v : V} {a C dx : Addr} {fs : List (Str × V)} (h : Ev ta σ H (.ref a)) (ha : H a = some (.ins C dx fs)) (c : Cls K C) (n : NoAttr K C f) (l : fs.lookup f = some v) : Ev (tFld K ta f) σ H v := fun H1 e Q q =>
  h H1 e _ fun H2 e2 => ⟨a, C, dx, fs, v, rfl, (e.trans e2) _ _ ha, c, n, l, q H2 e2⟩
/-- x.f = e, something behind -/
theorem q_fld {K : PySem.W.Frag} {σ : L2.St} {H : Hp} {ta tv : TE} {f : Str} {y : V} {a C dx : Addr} {fs : List (Str × V)} {D : Ends} {tz : TS} (hv : Ev tv σ H y) (h : Ev ta σ H (.ref a)) (ha : H a = some (.ins C dx fs)) (c : Cls K C) (n : NoAttr K C f) (hl : fs.length < 1000) (k : ∀ H1, Ex H H1 → tz D σ (upd H1 a (.ins C dx (putF f y fs)))) : tSeq (sFld K ta tv f) tz D σ H :=
  hv H (Ex.refl H) _ fun H1 e1 => h H1 e1 _ fun H2 e2 => ⟨a, C, dx, fs, rfl, (e1.trans e2) _ _ ha, c, n, hl, k H2 (e1.trans e2)⟩
theorem s_fld {K : PySem.W.Frag} {σ : L2.St} {H : Hp} {ta tv : TE} {f : Str} {y : V} {a C dx : Addr} {fs : List (Str × V)} {D : Ends} (hv : Ev tv σ H y) (h : Ev ta σ H (.ref a)) (ha : H a = some (.ins C dx fs)) (c : Cls K C) (n : NoAttr K C f) (hl : fs.length < 1000) (k : ∀ H1, Ex H H1 → D.nx σ (upd H1 a (.ins C dx (putF f y fs)))) : sFld K ta tv f D σ H :=
  hv H (Ex.refl H) _ fun H1 e1 => h H1 e1 _ fun H2 e2 => ⟨a, C, dx, fs, rfl, (e1.trans e2) _ _ ha, c, n, hl, k H2 (e1.trans e2)⟩
/-! ### a question's object -/
def QF (k p w n : V) : List (Str × V) := [("kind", k), ("parts", p), ("number", w), ("size", n)]
theorem QF_kind {k p w n : V} : (QF k p w n).lookup ("kind" : Str) = some k := lk_here
theorem QF_parts {k p w n : V} : (QF k p w n).lookup ("parts" : Str) = some p := (lk_past (by decide +kernel)).trans lk_here
theorem QF_word {k p w n : V} : (QF k p w n).lookup ("number" : Str) = some w := (lk_past (by decide +kernel)).trans ((lk_past (by decide +kernel)).trans lk_here)
theorem QF_size {k p w n : V} : (QF k p w n).lookup ("size" : Str) = some n := (lk_past (by decide +kernel)).trans ((lk_past (by decide +kernel)).trans ((lk_past (by decide +kernel)).trans lk_here))
theorem QF_str {k p w n : V} : (QF k p w n).lookup ("stretches_in" : Str) = none := (lk_past (by decide +kernel)).trans ((lk_past (by decide +kernel)).trans ((lk_past (by decide +kernel)).trans ((lk_past (by decide +kernel)).trans rfl)))
theorem QF_mk {k p w n : V} : (QF k p w n).lookup ("makers" : Str) = none := (lk_past (by decide +kernel)).trans ((lk_past (by decide +kernel)).trans ((lk_past (by decide +kernel)).trans ((lk_past (by decide +kernel)).trans rfl)))
theorem QF_new {k p w n : V} : putF "size" n (putF "number" w (putF "parts" p (putF "kind" k []))) = QF k p w n := by
  show putF "size" n (putF "number" w (putF "parts" p [("kind", k)])) = _
  rw [put_past (by decide +kernel)]
  show putF "size" n (putF "number" w [("kind", k), ("parts", p)]) = _
  rw [put_past (by decide +kernel), put_past (by decide +kernel)]
  show putF "size" n [("kind", k), ("parts", p), ("number", w)] = _
  rw [put_past (by decide +kernel), put_past (by decide +kernel), put_past (by decide +kernel)]
  rfl
structure ClsQ (K : PySem.W.Frag) (C : Addr) : Prop where
  cl : Cls K C
  nk : NoAttr K C "kind"
  np : NoAttr K C "parts"
  nw : NoAttr K C "number"
  ns : NoAttr K C "size"
/-- the i-th question laid, of ts, is q, and its object is v -/
inductive QIs (H : Hp) (C : Addr) (ts : List Rh06.Q) (i : Nat) : V → Rh06.Q → Prop
  | word {q dx pp : Addr} {w : Nat} : H q = some (.ins C dx (QF (.int 3) (.ref pp) (.int (w : Int)) (.int 1))) → QIs H C ts i (.ref q) (.word w)
  | join {q dx pp : Addr} {k a b : Nat} {qa qb : Rh06.Q} : H q = some (.ins C dx (QF (.int (k : Int)) (.ref pp) .non (.int ((Rh06.size qa + Rh06.size qb : Nat) : Int)))) → H pp = some (.tup [.int (a : Int), .int (b : Int)]) →
      4 ≤ k → k ≤ 12 → a < i → b < i → ts[a]? = some qa → ts[b]? = some qb → QIs H C ts i (.ref q) (Rh06.joined (k - 4) qa qb)
  | bound {q dx pp : Addr} {k a n : Nat} {qa : Rh06.Q} : H q = some (.ins C dx (QF (.int (k : Int)) (.ref pp) (.int (n : Int)) (.int ((Rh06.size qa : Nat) : Int)))) → H pp = some (.tup [.int (a : Int)]) →
      k = 13 ∨ k = 14 → a < i → ts[a]? = some qa → QIs H C ts i (.ref q) (Ns.bd k qa n)
theorem QIs.ex {H H' : Hp} {C : Addr} {ts : List Rh06.Q} {i : Nat} {v : V} {q : Rh06.Q} (e : Ex H H') : QIs H C ts i v q → QIs H' C ts i v q
  | .word h => .word (e _ _ h)
  | .join h h2 a b c d f g => .join (e _ _ h) (e _ _ h2) a b c d f g
  | .bound h h2 a b c => .bound (e _ _ h) (e _ _ h2) a b c
/-- more are laid -/
theorem QIs.more {H : Hp} {C : Addr} {ts us : List Rh06.Q} {i : Nat} {v : V} {q : Rh06.Q} (hi : i ≤ ts.length) : QIs H C ts i v q → QIs H C (ts ++ us) i v q
  | .word h => .word h
  | .join h h2 a b c d f g => .join h h2 a b c d (by rw [List.getElem?_append_left (by omega)]; exact f) (by rw [List.getElem?_append_left (by omega)]; exact g)
  | .bound h h2 a b c => .bound h h2 a b (by rw [List.getElem?_append_left (by omega)]; exact c)
theorem size_joined (k : Nat) (p q : Rh06.Q) : Rh06.size (Rh06.joined k p q) = Rh06.size p + Rh06.size q := by
  unfold Rh06.joined
  split <;> rfl
theorem QIs.size {H : Hp} {C : Addr} {ts : List Rh06.Q} {i : Nat} {v : V} {q : Rh06.Q} (h : QIs H C ts i v q) : ∃ (a dx : Addr) (k p w : V), v = .ref a ∧ H a = some (.ins C dx (QF k p w (.int (Rh06.size q : Int)))) := by
  cases h with
  | word h => exact ⟨_, _, _, _, _, rfl, h⟩
  | join h h2 a b c d f g => exact ⟨_, _, _, _, _, rfl, by rw [size_joined]; exact h⟩
  | bound h h2 a b c => exact ⟨_, _, _, _, _, rfl, by rw [Ns.bd_size]; exact h⟩
theorem row_joined (t : List Nat) {k : Nat} (h4 : 4 ≤ k) (h12 : k ≤ 12) (p q : Rh06.Q) : Rh06.row t (Rh06.joined (k - 4) p q) = jn k (Rh06.row t p) (Rh06.row t q) := by
  have : k = 4 ∨ k = 5 ∨ k = 6 ∨ k = 7 ∨ k = 8 ∨ k = 9 ∨ k = 10 ∨ k = 11 ∨ k = 12 := by omega
  rcases this with rfl | rfl | rfl | rfl | rfl | rfl | rfl | rfl | rfl <;> rfl
/-- the rows of those laid ahead -/
def Rows (H : Hp) (t : List Nat) (ts : List Rh06.Q) (n : Nat) (rs : List V) : Prop := ∀ j q, j < n → ts[j]? = some q → ∃ a, rs[j]? = some (.ref a) ∧ LT H a (Rh06.row t q)
def spStr (K : PySem.W.Frag) (C : Addr) : Sp := fun vs H Q _ => ∃ (v : V) (aw ae : Addr) (t : List Nat) (ts : List Rh06.Q) (i : Nat) (q : Rh06.Q) (rs : List V), vs = [v, .ref aw, .ref ae] ∧ QIs H C ts i v q ∧ WAt K H aw t ∧ t.length ≤ 60 ∧ SqL K H ae rs ∧ Rows H t ts i rs ∧ RetS (Rh06.row t q) H Q
def spQInit (C : Addr) : Sp := fun vs H Q _ => ∃ (p dx : Addr) (k pp w n : V), vs = [.ref p, k, pp, w, n] ∧ H p = some (.ins C dx []) ∧
  ∀ H' : Hp, H' p = some (.ins C dx (QF k pp w n)) → (∀ b o, H b = some o → b ≠ p → H' b = some o) → Q .non H'
section
variable {P : Program} {w : World} {K : PySem.W.Frag} {mg : Str → Option Value} {base : Heap} {C : Addr}
theorem m_qinit {f : Addr} {fd : FuncData} (T : ClsQ K C) (M : Mk K C f) (hm : mg "Question" = some (.ref C)) (F : C8.Fun K "__init__" "Question.__init__" sQInit f fd) (b : Binds K fd ["self", "kind", "parts", "number", "size"] []) : C8.Mak P w K mg base 1 "Question" C (spQInit C) [] := by
  refine C8.mak0 M hm F b .nil (C8.fnScope_by (N := ["self", "kind", "parts", "number", "size"]) (by decide +kernel)) (fun vs H Q E h => ?_) (fun cdv A outer s H vs Q E hr h => ⟨_,
    pss_cons (ps_fld (pv 0) (pv 1) rfl) (pss_cons (ps_fld (pv 0) (pv 2) rfl) (pss_cons (ps_fld (pv 0) (pv 3) rfl) (pss_one (ps_fld (pv 0) (pv 4) rfl)))), ?_⟩)
  · obtain ⟨p, dx, k, pp, w, n, rfl, _⟩ := h
    rfl
  · obtain ⟨p, dx, k, pp, w, n, rfl, hp, q⟩ := h
    refine ⟨_, rfl, _, rfl, p, C, dx, [], rfl, hp, T.cl, T.nk, (by show 0 < 1000; decide), ?_⟩
    refine ⟨_, rfl, _, rfl, p, C, dx, _, rfl, upd_same, T.cl, T.np, (by show 1 < 1000; decide), ?_⟩
    refine ⟨_, rfl, _, rfl, p, C, dx, _, rfl, upd_same, T.cl, T.nw, ?_, ?_⟩
    · have h1 := putF_len "parts" pp (putF "kind" k [])
      have h2 := putF_len "kind" k []
      rw [List.length_nil] at h2
      omega
    refine ⟨_, rfl, _, rfl, p, C, dx, _, rfl, upd_same, T.cl, T.ns, ?_, ?_⟩
    · have h1 := putF_len "parts" pp (putF "kind" k [])
      have h2 := putF_len "kind" k []
      have h3 := putF_len "number" w (putF "parts" pp (putF "kind" k []))
      rw [List.length_nil] at h2
      omega
    refine q _ ?_ fun b o e hb => ?_
    · rw [QF_new]
      exact upd_same
    · rw [upd_ne hb, upd_ne hb, upd_ne hb, upd_ne hb]
      exact e
theorem m_str {f : Addr} {fd : FuncData} (T : ClsQ K C) (me : Meth K C "stretches_in" f) (F : C8.Fun K "stretches_in" "Question.stretches_in" sStretchesIn f fd) (b : Binds K fd ["self", "words", "earlier"] [])
    (PL : C8.Cal P w K mg base 1 "places_of_word" (spPlaces K) []) (J : C8.Cal P w K mg base 6 "joined" spJoined []) (BD : C8.Cal P w K mg base 2 "bounded" (spBounded K) []) (nW : Num mg "WORD" 3) (nI : Num mg "WITHIN" 13) (nF : Num mg "FIRST" 14) : C8.Met P w K mg base 7 C "stretches_in" (spStr K C) [] := by
  have sc : FnScope ["self", "words", "earlier", "left"] ["self", "words", "earlier"] (C8.fnScope sStretchesIn) := C8.fnScope_by (by decide +kernel)
  refine C8.met0 T.cl me F b sc (fun vs H Q E h => ?_) (fun cdv A outer s H vs Q E hr h => ⟨_,
    pss_cons (ps_if (pt_cmpR op_eq (pe_fld (pv 0) rfl) (C8.pe_gc rfl nW) (nomark _)) (pss_one (ps_ret (C8.pe_c PL hr (by decide) rfl (pa_cons (pv 1) (pa_cons (pe_fld (pv 0) rfl) pa_nil))))) pss_nil)
    (pss_cons (ps_set (i := 3) sc.nd rfl (Or.inl rfl) (pe_ix ix_list (pv 2) (pe_ix ix_tup (pe_fld (pv 0) rfl) pe_int (fun _ _ => rfl)) (fun _ _ => rfl)))
    (pss_cons (ps_if (pt_cmpR op_in_seq (pe_fld (pv 0) rfl) (pe_tup (pa_cons (C8.pe_gc rfl nI) (pa_cons (C8.pe_gc rfl nF) pa_nil))) rfl) (pss_one (ps_ret (C8.pe_c BD hr (by decide) rfl (pa_cons (pe_fld (pv 0) rfl) (pa_cons (pv 3) (pa_cons (pe_fld (pv 0) rfl) pa_nil)))))) pss_nil)
    (pss_one (ps_ret (C8.pe_c J hr (by decide) rfl (pa_cons (pe_fld (pv 0) rfl) (pa_cons (pv 3) (pa_cons (pe_ix ix_list (pv 2) (pe_ix ix_tup (pe_fld (pv 0) rfl) pe_int (fun _ _ => rfl)) (fun _ _ => rfl)) pa_nil)))))))), ?_⟩)
  · obtain ⟨v, aw, ae, t, ts, i, q, rs, rfl, _⟩ := h
    rfl
  · obtain ⟨v, aw, ae, t, ts, i, q, rs, rfl, hq, hw, hl, hr', hrows, k⟩ := h
    cases hq with
    | word hq =>
      rename_i q0 dx pp wd
      refine q_when (b := true) (et_is (et_eqN (k := 3) (ev_fld (ev_var rfl) hq T.cl T.nk QF_kind)) rfl) (fun _ H1 e1 => ?_) (fun h => nomatch h)
      refine s_retS (l := Rh06.places wd 1 t) (es_call (ea_cons (ev_var rfl) (ea_cons (ev_fld (ev_var rfl) (e1 _ _ hq) T.cl T.nw QF_word) ea_nil)) fun H2 e2 Q k E => ⟨aw, t, wd, rfl, ex_l (e1.trans e2) hw, by omega, k⟩) fun p xs H2 np e2 hp sp => ?_
      exact k p xs H2 (fresh_back e1 np) (e1.trans e2) hp sp
    | join hq hp k4 k12 ha hb ta tb =>
      rename_i q0 dx pp kk a b qa qb
      obtain ⟨ra, ga, la⟩ := hrows a qa ha ta
      obtain ⟨rb, gb, lb⟩ := hrows b qb hb tb
      refine q_when (b := false) (et_is (et_eqN (k := kk) (ev_fld (ev_var rfl) hq T.cl T.nk QF_kind)) (decide_eq_false (by omega))) (fun h => nomatch h) (fun _ H1 e1 => ?_)
      rw [row_joined t k4 k12] at k
      refine q_asg (v := .ref ra) (ev_op (ev_var rfl) (ev_op (ev_fld (ev_var rfl) (e1 _ _ hq) T.cl T.np QF_parts) ev_c (rv_ixT (st_of (e1 _ _ hp)) (atI_nat (j := 0) rfl))) (rv_ixL (ex_l e1 hr') (atI_nat ga))) fun H2 e2 => ?_
      have e12 := e1.trans e2
      refine q_when (b := false) (et_is (et_inTwo (k := kk) (ev_fld (ev_var rfl) (e12 _ _ hq) T.cl T.nk QF_kind)) (decide_eq_false (by omega))) (fun h => nomatch h) (fun _ H3 e3 => ?_)
      have e13 := e12.trans e3
      refine s_retS (l := jn kk (Rh06.row t qa) (Rh06.row t qb)) (es_call (ea_cons (ev_fld (ev_var rfl) (e13 _ _ hq) T.cl T.nk QF_kind) (ea_cons (ev_var rfl) (ea_cons (ev_op (ev_var rfl) (ev_op (ev_fld (ev_var rfl) (e13 _ _ hq) T.cl T.np QF_parts) ev_c (rv_ixT (st_of (e13 _ _ hp)) (atI_nat (j := 1) rfl))) (rv_ixL (ex_l e13 hr') (atI_nat gb))) ea_nil)))
        fun H2 e2 Q k E => ⟨kk, ra, rb, _, _, rfl, k4, k12, ⟨la.ex (e13.trans e2), lb.ex (e13.trans e2), (Ns.row_ok t qa).1, (Ns.row_ok t qb).1, ?_, ?_⟩, k⟩) fun p xs H2 np e2 hp sp => ?_
      · exact Nat.le_trans (Ns.row_len t qa) (by omega)
      · exact Nat.le_trans (Ns.row_len t qb) (by omega)
      · exact k p xs H2 (fresh_back e13 np) (e13.trans e2) hp sp
    | bound hq hp hk ha ta =>
      rename_i q0 dx pp kk a n qa
      obtain ⟨ra, ga, la⟩ := hrows a qa ha ta
      refine q_when (b := false) (et_is (et_eqN (k := kk) (ev_fld (ev_var rfl) hq T.cl T.nk QF_kind)) (decide_eq_false (by omega))) (fun h => nomatch h) (fun _ H1 e1 => ?_)
      rw [Ns.bd_row] at k
      refine q_asg (v := .ref ra) (ev_op (ev_var rfl) (ev_op (ev_fld (ev_var rfl) (e1 _ _ hq) T.cl T.np QF_parts) ev_c (rv_ixT (st_of (e1 _ _ hp)) (atI_nat (j := 0) rfl))) (rv_ixL (ex_l e1 hr') (atI_nat ga))) fun H2 e2 => ?_
      have e12 := e1.trans e2
      refine q_when (b := true) (et_is (et_inTwo (k := kk) (ev_fld (ev_var rfl) (e12 _ _ hq) T.cl T.nk QF_kind)) (decide_eq_true (by omega))) (fun _ H3 e3 => ?_) (fun h => nomatch h)
      have e13 := e12.trans e3
      refine s_retS (l := Ns.jBound kk n (Rh06.row t qa)) (es_call (ea_cons (ev_fld (ev_var rfl) (e13 _ _ hq) T.cl T.nk QF_kind) (ea_cons (ev_var rfl) (ea_cons (ev_fld (ev_var rfl) (e13 _ _ hq) T.cl T.nw QF_word) ea_nil)))
        fun H2 e2 Q k E => ⟨kk, ra, _, n, rfl, (la.ex (e13.trans e2)).at, Nat.le_trans (Ns.row_len t qa) (by omega), k⟩) fun p xs H2 np e2 hp sp => ?_
      exact k p xs H2 (fresh_back e13 np) (e13.trans e2) hp sp
end
end Nr

set_option Elab.async false
set_option linter.all false
set_option maxRecDepth 100000
set_option maxHeartbeats 2000000
namespace Nr
open PySem PySem.Spec PyProof.Rows L2 Evl
open Rh06 (Stretch)
/-! ### the specification's desk -/
theorem get_keep (d : Rh06.St) (s j : Nat) (q : Rh06.Q) : Rh06.get (Rh06.keep d s q) j = if j = s then some q else Rh06.get d j := by
  unfold Rh06.get Rh06.keep
  by_cases c : j = s
  · rw [if_pos c]
    simp [c]
  · rw [if_neg c]
    have h1 : (s == j) = false := by simp; omega
    rw [List.find?_cons_of_neg (by simp; omega), List.find?_filter]
    congr 1
    congr 1
    funext x
    by_cases h : x.1 = j
    · subst h
      simp [c]
    · simp [h]
theorem putK_len (kvs : List (Key × V)) (k : Key) (v : V) : (putK kvs k v).length ≤ kvs.length + 1 := by
  unfold putK
  split
  · rw [List.length_map]; exact Nat.le_succ _
  · rw [List.length_append]; exact Nat.le_refl _
/-! ### more words of evaluation -/
section
variable {K : PySem.W.Frag} {σ : L2.St} {H H' : Hp} {ta tb te : TE} {x y v : V} {D : Ends}
theorem es_meth {C a dx : Addr} {m : Str} {sp : Sp} {dvs vs : List V} {E : XK} {t : TA} {fs : List (Str × V)} {l : List Stretch} (ho : Ev ta σ H (.ref a)) (ha : H a = some (.ins C dx fs)) (hm : fs.lookup m = none) (h : EvA t σ H vs) (hs : SpS sp (.ref a :: (vs ++ dvs)) H l) : EvS (tMeth C m sp dvs E ta t) σ H l := fun H1 e Q q =>
  ho H1 e _ fun H2 e2 => ⟨a, dx, fs, rfl, (e.trans e2) _ _ ha, hm, h H2 (e.trans e2) _ fun H3 e3 => hs H3 ((e.trans e2).trans e3) Q (fun p xs H4 hp e4 h4 k => q p xs H4 (fresh_back (e2.trans e3) hp) ((e2.trans e3).trans e4) h4 k) E⟩
theorem s_appS {l : Addr} {xs : List V} {r : List Stretch} (hl : H l = some (.lst xs)) (ha : Ev ta σ H (.ref l)) (h : EvS te σ H r) (hz : xs.length < 100000) (k : ∀ p ys H1, H p = none → Ex H H1 → H1 p = some (.lst ys) → Sts H1 ys r → D.nx σ (upd H1 l (.lst (xs ++ [.ref p])))) :
    tDrop (tBM K "list" rAppend ta (tCons te tNil)) D σ H :=
  ha H (Ex.refl H) _ fun H1 e1 => ⟨Or.inl ⟨rfl, xs, sq_of (e1 l _ hl)⟩, h H1 e1 _ fun p ys H2 hp e2 h2 s2 => ⟨l, xs, .ref p, rfl, rfl, e2 l _ (e1 l _ hl), sz_lt hz, k p ys H2 (fresh_back e1 hp) (e1.trans e2) h2 s2⟩⟩
theorem q_asgS {i : Nat} {tz : TS} {l : List Stretch} (h : EvS te σ H l) (k : ∀ p xs H1, H p = none → Ex H H1 → H1 p = some (.lst xs) → Sts H1 xs l → tz D (σ.set i (some (.ref p))) H1) : tSeq (tAsg te (gName i)) tz D σ H := s_asgS (D := { D with nx := tz D }) h k
/-- d[k] = e, something behind -/
theorem q_dput {td ty tv : TE} {pl : Addr} {kvs : List (Key × V)} {kk : Key} {tz : TS} (hv : Ev tv σ H v) (hd : Ev td σ H (.ref pl)) (hy : Ev ty σ H (kV kk)) (hl : H pl = some (.dK kvs)) (hz : kvs.length < 100000) (k : ∀ H1, Ex H H1 → tz D σ (upd H1 pl (.dK (putK kvs kk v)))) : tSeq (sDPut td ty tv) tz D σ H :=
  hv H (Ex.refl H) _ fun H1 e1 => hd H1 e1 _ fun H2 e2 => hy H2 (e1.trans e2) _ fun H3 e3 => ⟨pl, _, rfl, DPut.k (((e1.trans e2).trans e3) _ _ hl) (sz_lt hz), k H3 ((e1.trans e2).trans e3)⟩
/-- return o.m(..): what the method promises -/
theorem s_retM {C a dx : Addr} {m : Str} {sp : Sp} {dvs vs : List V} {E : XK} {t : TA} {fs : List (Str × V)} (ho : Ev ta σ H (.ref a)) (ha : H a = some (.ins C dx fs)) (hm : fs.lookup m = none) (h : EvA t σ H vs) (hs : ∀ H1, Ex H H1 → sp (.ref a :: (vs ++ dvs)) H1 D.rt E) : tRet (tMeth C m sp dvs E ta t) D σ H :=
  ho H (Ex.refl H) _ fun H2 e2 => ⟨a, dx, fs, rfl, e2 _ _ ha, hm, h H2 e2 _ fun H3 e3 => hs H3 (e2.trans e3)⟩
end
/-! ### what is changed apart -/
section
variable {H H' : Hp} {S : List Addr}
theorem IsSt.but (k : ∀ b o, H b = some o → b ∉ S → H' b = some o) (nt : ∀ b ∈ S, ∀ xs, H b ≠ some (.tup xs)) {v : V} {s : Stretch} : IsSt H v s → IsSt H' v s := fun ⟨t, a, b⟩ => ⟨t, a, k _ _ b fun m => nt t m _ b⟩
theorem Sts.but (k : ∀ b o, H b = some o → b ∉ S → H' b = some o) (nt : ∀ b ∈ S, ∀ xs, H b ≠ some (.tup xs)) : ∀ {xs : List V} {l : List Stretch}, Sts H xs l → Sts H' xs l
  | _, _, .nil => .nil
  | _, _, .cons a t => .cons (a.but k nt) (Sts.but k nt t)
theorem LT.but (k : ∀ b o, H b = some o → b ∉ S → H' b = some o) (nt : ∀ b ∈ S, ∀ xs, H b ≠ some (.tup xs)) {a : Addr} {l : List Stretch} (ha : a ∉ S) : LT H a l → LT H' a l := fun ⟨xs, h1, h2⟩ => ⟨xs, k _ _ h1 ha, h2.but k nt⟩
theorem QIs.but (k : ∀ b o, H b = some o → b ∉ S → H' b = some o) (nt : ∀ b ∈ S, ∀ xs, H b ≠ some (.tup xs)) (nq : ∀ b ∈ S, ∀ C dx k p w n, H b ≠ some (.ins C dx (QF k p w n))) {C : Addr} {ts : List Rh06.Q} {i : Nat} {v : V} {q : Rh06.Q} : QIs H C ts i v q → QIs H' C ts i v q
  | .word h => .word (k _ _ h fun m => nq _ m _ _ _ _ _ _ h)
  | .join h h2 a b c d f g => .join (k _ _ h fun m => nq _ m _ _ _ _ _ _ h) (k _ _ h2 fun m => nt _ m _ h2) a b c d f g
  | .bound h h2 a b c => .bound (k _ _ h fun m => nq _ m _ _ _ _ _ _ h) (k _ _ h2 fun m => nt _ m _ h2) a b c
end
/-! ### the desk in the heap -/
def NF (pw pq ps pl : Addr) : List (Str × V) := [("words", .ref pw), ("questions", .ref pq), ("stretches", .ref ps), ("laid", .ref pl)]
theorem NF_words {a b c d : Addr} : (NF a b c d).lookup ("words" : Str) = some (.ref a) := lk_here
theorem NF_questions {a b c d : Addr} : (NF a b c d).lookup ("questions" : Str) = some (.ref b) := (lk_past (by decide +kernel)).trans lk_here
theorem NF_stretches {a b c d : Addr} : (NF a b c d).lookup ("stretches" : Str) = some (.ref c) := (lk_past (by decide +kernel)).trans ((lk_past (by decide +kernel)).trans lk_here)
theorem NF_laid {a b c d : Addr} : (NF a b c d).lookup ("laid" : Str) = some (.ref d) := (lk_past (by decide +kernel)).trans ((lk_past (by decide +kernel)).trans ((lk_past (by decide +kernel)).trans lk_here))
theorem NF_no {a b c d : Addr} {m : Str} (h1 : (m == ("words" : Str)) = false) (h2 : (m == ("questions" : Str)) = false) (h3 : (m == ("stretches" : Str)) = false) (h4 : (m == ("laid" : Str)) = false) : (NF a b c d).lookup m = none :=
  (lk_past h1).trans ((lk_past h2).trans ((lk_past h3).trans ((lk_past h4).trans rfl)))
theorem NF_putW {a b c d e : Addr} : putF "words" (.ref e) (NF a b c d) = NF e b c d := put_here
theorem NF_putS {a b c d e : Addr} : putF "stretches" (.ref e) (NF a b c d) = NF a b e d := (put_past (by decide +kernel)).trans (congrArg _ ((put_past (by decide +kernel)).trans (congrArg _ put_here)))
structure ClsN (K : PySem.W.Frag) (C : Addr) : Prop where
  cl : Cls K C
  nw : NoAttr K C "words"
  nq : NoAttr K C "questions"
  ns : NoAttr K C "stretches"
  nl : NoAttr K C "laid"
def nums (t : List Nat) : List V := t.map fun (n : Nat) => V.int (n : Int)
/-- where the desk's parts lie, and what they hold: ts all questions that were ever laid, in the order of laying -/
structure Parts (CN CQ : Addr) (H : Hp) (st dx pw pq ps pl : Addr) (d : Rh06.St) (ts : List Rh06.Q) (vs rs : List V) (kvs : List (Key × V)) : Prop where
  at_ : H st = some (.ins CN dx (NF pw pq ps pl))
  wat : H pw = some (.lst (nums d.text))
  few : d.text.length ≤ 60
  qat : H pq = some (.lst vs)
  qln : vs.length = ts.length
  qis : ∀ i v q, vs[i]? = some v → ts[i]? = some q → QIs H CQ ts i v q
  rat : H ps = some (.lst rs)
  rln : rs.length = ts.length
  row : Rows H d.text ts ts.length rs
  lat : H pl = some (.dK kvs)
  lln : kvs.length ≤ ts.length
  laid : ∀ s : Nat, match Rh06.get d s with
    | none => valV kvs (.inl (s : Int)) = none
    | some q => ∃ i : Nat, valV kvs (.inl (s : Int)) = some (.int (i : Int)) ∧ ts[i]? = some q
  ne1 : pq ≠ ps
  ne2 : pw ≠ pq
  ne3 : pw ≠ ps
  ne4 : ∀ a, V.ref a ∈ rs → a ≠ pq ∧ a ≠ ps
/-- the lists that these values are -/
def refs (rs : List V) : List Addr := rs.filterMap fun v => match v with
  | .ref a => some a
  | _ => none
theorem mem_refs {rs : List V} {a : Addr} : a ∈ refs rs ↔ V.ref a ∈ rs := by
  unfold refs
  rw [List.mem_filterMap]
  constructor
  · rintro ⟨v, m, h⟩
    cases v <;> cases h
    exact m
  · intro m
    exact ⟨_, m, rfl⟩
/-- the desk's own lists, its dict and itself -/
def foot (st pw pq ps pl : Addr) (rs : List V) : List Addr := st :: pq :: ps :: pl :: pw :: refs rs
theorem foot_four {st pw pq ps pl b : Addr} {rs : List V} (h : b ∈ [st, pq, ps, pl]) : b ∈ foot st pw pq ps pl rs := by
  unfold foot
  simp only [List.mem_cons, List.not_mem_nil, or_false] at h ⊢
  rcases h with h | h | h | h <;> simp [h]
/-- the desk at st is d; own: what may be changed when it is, and its lists -/
def DeskAt (CN CQ : Addr) (H : Hp) (st : Addr) (own : List Addr) (d : Rh06.St) (ts : List Rh06.Q) : Prop :=
  ∃ dx pw pq ps pl vs rs kvs, own = foot st pw pq ps pl rs ∧ Parts CN CQ H st dx pw pq ps pl d ts vs rs kvs
/-- what is not the desk's own stands; what is its own then was so, or is new -/
structure Frame (H H' : Hp) (own own' : List Addr) : Prop where
  keep : ∀ b o, H b = some o → b ∉ own → H' b = some o
  new : ∀ b ∈ own', b ∈ own ∨ H b = none
theorem Frame.ex {H H1 H' : Hp} {own own' : List Addr} (e : Ex H H1) (f : Frame H1 H' own own') : Frame H H' own own' :=
  ⟨fun b o h n => f.keep b o (e _ _ h) n, fun b m => (f.new b m).elim .inl fun h => .inr (fresh_back e h)⟩
theorem Parts.ex {CN CQ : Addr} {H H' : Hp} {st dx pw pq ps pl : Addr} {d : Rh06.St} {ts : List Rh06.Q} {vs rs : List V} {kvs : List (Key × V)} (p : Parts CN CQ H st dx pw pq ps pl d ts vs rs kvs) (e : Ex H H') : Parts CN CQ H' st dx pw pq ps pl d ts vs rs kvs :=
  ⟨e _ _ p.at_, e _ _ p.wat, p.few, e _ _ p.qat, p.qln, fun i v q h1 h2 => (p.qis i v q h1 h2).ex e, e _ _ p.rat, p.rln, fun j q h1 h2 => by
    obtain ⟨a, h3, h4⟩ := p.row j q h1 h2
    exact ⟨a, h3, h4.ex e⟩, e _ _ p.lat, p.lln, p.laid, p.ne1, p.ne2, p.ne3, p.ne4⟩
theorem DeskAt.ex {CN CQ : Addr} {H H' : Hp} {st : Addr} {own : List Addr} {d : Rh06.St} {ts : List Rh06.Q} (h : DeskAt CN CQ H st own d ts) (e : Ex H H') : DeskAt CN CQ H' st own d ts := by
  obtain ⟨dx, pw, pq, ps, pl, vs, rs, kvs, h1, h2⟩ := h
  exact ⟨dx, pw, pq, ps, pl, vs, rs, kvs, h1, h2.ex e⟩
theorem Parts.notup {CN CQ : Addr} {H : Hp} {st dx pw pq ps pl : Addr} {d : Rh06.St} {ts : List Rh06.Q} {vs rs : List V} {kvs : List (Key × V)} (p : Parts CN CQ H st dx pw pq ps pl d ts vs rs kvs) : ∀ b ∈ [st, pq, ps, pl], ∀ xs, H b ≠ some (.tup xs) := fun b m xs h => by
  simp only [List.mem_cons, List.not_mem_nil, or_false] at m
  rcases m with rfl | rfl | rfl | rfl
  · rw [p.at_] at h; cases h
  · rw [p.qat] at h; cases h
  · rw [p.rat] at h; cases h
  · rw [p.lat] at h; cases h
theorem Parts.noq {CN CQ : Addr} {H : Hp} {st dx pw pq ps pl : Addr} {d : Rh06.St} {ts : List Rh06.Q} {vs rs : List V} {kvs : List (Key × V)} (p : Parts CN CQ H st dx pw pq ps pl d ts vs rs kvs) : ∀ b ∈ [st, pq, ps, pl], ∀ C dx k p w n, H b ≠ some (.ins C dx (QF k p w n)) := fun b m C dx' k p' w n h => by
  simp only [List.mem_cons, List.not_mem_nil, or_false] at m
  rcases m with rfl | rfl | rfl | rfl
  · rw [p.at_] at h
    injection h with h
    injection h with _ _ h
    unfold NF QF at h
    injection h with h _
    injection h with h _
    exact absurd h (by decide +kernel)
  · rw [p.qat] at h; cases h
  · rw [p.rat] at h; cases h
  · rw [p.lat] at h; cases h
theorem Parts.there {CN CQ : Addr} {H : Hp} {st dx pw pq ps pl : Addr} {d : Rh06.St} {ts : List Rh06.Q} {vs rs : List V} {kvs : List (Key × V)} (p : Parts CN CQ H st dx pw pq ps pl d ts vs rs kvs) {b : Addr} (m : b ∈ foot st pw pq ps pl rs) : ∃ o, H b = some o := by
  unfold foot at m
  simp only [List.mem_cons] at m
  rcases m with rfl | rfl | rfl | rfl | rfl | m
  · exact ⟨_, p.at_⟩
  · exact ⟨_, p.qat⟩
  · exact ⟨_, p.rat⟩
  · exact ⟨_, p.lat⟩
  · exact ⟨_, p.wat⟩
  · obtain ⟨j, hj⟩ := List.getElem?_of_mem (mem_refs.mp m)
    have jl : j < ts.length := by rw [← p.rln]; exact (List.getElem?_eq_some_iff.mp hj).1
    obtain ⟨a, h1, xs, h2, _⟩ := p.row j _ jl (List.getElem?_eq_getElem jl)
    rw [hj] at h1
    cases h1
    exact ⟨_, h2⟩
theorem DeskAt.fresh {CN CQ : Addr} {H : Hp} {st : Addr} {own : List Addr} {d : Rh06.St} {ts : List Rh06.Q} (h : DeskAt CN CQ H st own d ts) {b : Addr} (n : H b = none) : b ∉ own := fun m => by
  obtain ⟨dx, pw, pq, ps, pl, vs, rs, kvs, rfl, p⟩ := h
  obtain ⟨o, ho⟩ := p.there m
  rw [n] at ho
  cases ho
/-- a list apart is changed -/
theorem DeskAt.apart {CN CQ : Addr} {H : Hp} {st : Addr} {own : List Addr} {d : Rh06.St} {ts : List Rh06.Q} (h : DeskAt CN CQ H st own d ts) {b : Addr} {ks : List V} {o : HO} (hb : H b = some (.lst ks)) (n : b ∉ own) : DeskAt CN CQ (upd H b o) st own d ts := by
  obtain ⟨dx, pw, pq, ps, pl, vs, rs, kvs, rfl, p⟩ := h
  have keep : ∀ c o', H c = some o' → c ∉ [b] → (upd H b o) c = some o' := fun c o' e m => by
    rw [upd_ne (fun z => m (List.mem_singleton.mpr z))]
    exact e
  have nt : ∀ c ∈ [b], ∀ xs, H c ≠ some (.tup xs) := fun c m xs e => by
    rw [List.mem_singleton.mp m, hb] at e
    cases e
  have nq : ∀ c ∈ [b], ∀ C dx k p w n, H c ≠ some (.ins C dx (QF k p w n)) := fun c m C dx k p w n e => by
    rw [List.mem_singleton.mp m, hb] at e
    cases e
  have ne : ∀ {c : Addr}, c ∈ foot st pw pq ps pl rs → c ∉ [b] := fun {c} m m2 => n (by rw [← List.mem_singleton.mp m2]; exact m)
  refine ⟨dx, pw, pq, ps, pl, vs, rs, kvs, rfl, ⟨keep _ _ p.at_ (ne (by simp [foot])), keep _ _ p.wat (ne (by simp [foot])), p.few, keep _ _ p.qat (ne (by simp [foot])), p.qln, fun i v q h1 h2 => (p.qis i v q h1 h2).but keep nt nq, keep _ _ p.rat (ne (by simp [foot])), p.rln, fun j q h1 h2 => ?_, keep _ _ p.lat (ne (by simp [foot])), p.lln, p.laid, p.ne1, p.ne2, p.ne3, p.ne4⟩⟩
  obtain ⟨a, h3, h4⟩ := p.row j q h1 h2
  exact ⟨a, h3, h4.but keep nt (ne (by unfold foot; simp only [List.mem_cons]; exact .inr (.inr (.inr (.inr (.inr (mem_refs.mpr (List.mem_of_getElem? h3)))))))) ⟩
/-! ### lay -/
def spLay (CN CQ : Addr) : Sp := fun vs H Q _ => ∃ (st : Addr) (own : List Addr) (d : Rh06.St) (ts : List Rh06.Q) (s : Nat) (v : V) (q : Rh06.Q), vs = [.ref st, .int (s : Int), v] ∧ DeskAt CN CQ H st own d ts ∧ ts.length ≤ 1000 ∧ QIs H CQ ts ts.length v q ∧
  ∀ H' own', DeskAt CN CQ H' st own' (Rh06.keep d s q) (ts ++ [q]) → Frame H H' own own' → Q (.int ((Rh06.row d.text q).length : Int)) H'
section
variable {P : Program} {w : World} {K : PySem.W.Frag} {mg : Str → Option Value} {base : Heap} {CN CQ : Addr}
theorem m_lay {f : Addr} {fd : FuncData} (TN : ClsN K CN) (TQ : ClsQ K CQ) (me : Meth K CN "lay" f) (F : C8.Fun K "lay" "Nearness.lay" sLay f fd) (b : Binds K fd ["self", "number", "question"] [])
    (ST : C8.Met P w K mg base 7 CQ "stretches_in" (spStr K CQ) []) (ml : mg "len" = none) : C8.Met P w K mg base 8 CN "lay" (spLay CN CQ) [] := by
  have sc : FnScope ["self", "number", "question", "found"] ["self", "number", "question"] (C8.fnScope sLay) := C8.fnScope_by (by decide +kernel)
  refine C8.met0 TN.cl me F b sc (fun vs H Q E h => ?_) (fun cdv A outer s H vs Q E hr h => ⟨_,
    pss_cons (ps_set (i := 3) sc.nd rfl (Or.inl rfl) (C8.pe_mt ST hr (by decide) (pv 2) (pa_cons (pe_fld (pv 0) rfl) (pa_cons (pe_fld (pv 0) rfl) pa_nil))))
    (pss_cons (ps_dput (hu_of hr) (pe_fld (pv 0) rfl) (pv 1) (pe_callB call_len_seq rfl ml PySem.boot_len (pa_cons (pe_fld (pv 0) rfl) pa_nil)) rfl)
    (pss_cons (ps_expr (pe_bm PySem.F.plainAttrs_list PySem.F.slot_list_append PySem.F.type_list_append mt_append (pe_fld (pv 0) rfl) (pa_cons (pv 2) pa_nil)))
    (pss_cons (ps_expr (pe_bm PySem.F.plainAttrs_list PySem.F.slot_list_append PySem.F.type_list_append mt_append (pe_fld (pv 0) rfl) (pa_cons (pv 3) pa_nil)))
    (pss_one (ps_ret (pe_callB call_len_seq rfl ml PySem.boot_len (pa_cons (pv 3) pa_nil))))))), ?_⟩)
  · obtain ⟨st, own, d, ts, s, v, q, rfl, _⟩ := h
    rfl
  · obtain ⟨st, own, d, ts, s, v, q, rfl, ⟨dx, pw, pq, ps, pl, vs, rs, kvs, rfl, p⟩, htn, hq, k⟩ := h
    obtain ⟨qa, qdx, qk, qp, qw, rfl, hqa⟩ := hq.size
    -- found = question.stretches_in(self.words, self.stretches)
    refine q_asgS (l := Rh06.row d.text q) (es_meth (ev_var rfl) hqa QF_str (ea_cons (ev_fld (ev_var rfl) p.at_ TN.cl TN.nw NF_words) (ea_cons (ev_fld (ev_var rfl) p.at_ TN.cl TN.ns NF_stretches) ea_nil))
      fun H1 e1 Q1 k1 E1 => ⟨.ref qa, pw, ps, d.text, ts, ts.length, q, rs, rfl, hq.ex e1, sq_of (e1 _ _ p.wat), p.few, sq_of (e1 _ _ p.rat), (p.ex e1).row, k1⟩) fun pf fs H1 npf e1 hpf sf => ?_
    have p1 := p.ex e1
    have hq1 := hq.ex e1
    -- self.laid[number] = len(self.questions)
    refine q_dput (kk := Sum.inl (s : Int)) (ev_len (K := K) (xs := vs) (ev_fld (ev_var rfl) p1.at_ TN.cl TN.nq NF_questions) (sq_of p1.qat)) (ev_fld (ev_var rfl) p1.at_ TN.cl TN.nl NF_laid) (ev_var rfl) p1.lat (by have := p.lln; omega) fun H2 e2 => ?_
    have p2 := p1.ex e2
    have eo : Ex H H2 := e1.trans e2
    -- self.questions.append(question)
    have at3 : (upd H2 pl (.dK (putK kvs (Sum.inl (s : Int)) (.int (vs.length : Int))))) st = some (.ins CN dx (NF pw pq ps pl)) := by rw [upd_ne (ne_of p2.at_ p2.lat (by intro z; cases z))]; exact p2.at_
    have q3 : (upd H2 pl (.dK (putK kvs (Sum.inl (s : Int)) (.int (vs.length : Int))))) pq = some (.lst vs) := by rw [upd_ne (ne_of p2.qat p2.lat (by intro z; cases z))]; exact p2.qat
    have r3 : (upd H2 pl (.dK (putK kvs (Sum.inl (s : Int)) (.int (vs.length : Int))))) ps = some (.lst rs) := by rw [upd_ne (ne_of p2.rat p2.lat (by intro z; cases z))]; exact p2.rat
    refine q_app q3 (ev_fld (ev_var rfl) at3 TN.cl TN.nq NF_questions) (ev_var rfl) (by rw [p.qln]; omega) fun H4 e4 => ?_
    have at4 : (upd H4 pq (.lst (vs ++ [.ref qa]))) st = some (.ins CN dx (NF pw pq ps pl)) := by rw [upd_ne (ne_of (e4 _ _ at3) (e4 _ _ q3) (by intro z; cases z))]; exact e4 _ _ at3
    have r4 : (upd H4 pq (.lst (vs ++ [.ref qa]))) ps = some (.lst rs) := by rw [upd_ne p.ne1.symm]; exact e4 _ _ r3
    refine q_app r4 (ev_fld (ev_var rfl) at4 TN.cl TN.ns NF_stretches) (ev_var rfl) (by rw [p.rln]; omega) fun H5 e5 => ?_
    -- all of it, behind
    generalize hF : upd H5 ps (.lst (rs ++ [.ref pf])) = HF
    have keep : ∀ b o, H2 b = some o → b ∉ [st, pq, ps, pl] → HF b = some o := fun b o h m => by
      simp only [List.mem_cons, List.not_mem_nil, or_false, not_or] at m
      rw [← hF, upd_ne m.2.2.1]
      refine e5 _ _ ?_
      rw [upd_ne m.2.1]
      refine e4 _ _ ?_
      rw [upd_ne m.2.2.2]
      exact h
    have atF : HF st = some (.ins CN dx (NF pw pq ps pl)) := by rw [← hF, upd_ne (ne_of (e5 _ _ at4) (e5 _ _ r4) (by intro z; cases z))]; exact e5 _ _ at4
    have qF : HF pq = some (.lst (vs ++ [.ref qa])) := by rw [← hF, upd_ne p.ne1]; exact e5 _ _ upd_same
    have rF : HF ps = some (.lst (rs ++ [.ref pf])) := by rw [← hF]; exact upd_same
    have lF : HF pl = some (.dK (putK kvs (Sum.inl (s : Int)) (.int (vs.length : Int)))) := by
      rw [← hF, upd_ne (ne_of p.lat p.rat (by intro z; cases z))]
      refine e5 _ _ ?_
      rw [upd_ne (ne_of p.lat p.qat (by intro z; cases z))]
      exact e4 _ _ upd_same
    have pfo : pf ∉ [st, pq, ps, pl] := fun m => by
      simp only [List.mem_cons, List.not_mem_nil, or_false] at m
      rcases m with rfl | rfl | rfl | rfl
      · rw [p.at_] at npf; cases npf
      · rw [p.qat] at npf; cases npf
      · rw [p.rat] at npf; cases npf
      · rw [p.lat] at npf; cases npf
    have pwo : pw ∉ [st, pq, ps, pl] := fun m => by
      simp only [List.mem_cons, List.not_mem_nil, or_false] at m
      rcases m with z | z | z | z
      · exact ne_of p.wat p.at_ (by intro z; cases z) z
      · exact p.ne2 z
      · exact p.ne3 z
      · exact ne_of p.wat p.lat (by intro z; cases z) z
    have pfF : HF pf = some (.lst fs) := keep _ _ (e2 _ _ hpf) pfo
    have hqF : QIs HF CQ ts ts.length (.ref qa) q := (hq1.ex e2).but keep p2.notup p2.noq
    refine s_ret (v := .int ((Rh06.row d.text q).length : Int)) (ev_is (ev_len (K := K) (xs := fs) (ev_var rfl) (sq_of pfF)) (by rw [sf.len])) fun H6 e6 => ?_
    refine k H6 (foot st pw pq ps pl (rs ++ [.ref pf])) (DeskAt.ex ⟨dx, pw, pq, ps, pl, _, _, _, rfl, ⟨atF, keep _ _ p2.wat pwo, p.few, qF, ?_, ?_, rF, ?_, ?_, lF, ?_, ?_, p.ne1, p.ne2, p.ne3, ?_⟩⟩ e6) ⟨fun b o h m => e6 _ _ (keep b o (eo _ _ h) (fun z => m (foot_four z))), fun b m => ?_⟩
    · rw [List.length_append, List.length_append, p.qln]; rfl
    · intro i v' q' h1 h2
      by_cases c : i < ts.length
      · rw [List.getElem?_append_left (by rw [p.qln]; exact c)] at h1
        rw [List.getElem?_append_left c] at h2
        exact ((p2.qis i v' q' h1 h2).but keep p2.notup p2.noq).more (Nat.le_of_lt c)
      · have c2 : i = ts.length := by
          have := (List.getElem?_eq_some_iff.mp h2).1
          rw [List.length_append, List.length_singleton] at this
          omega
        subst c2
        rw [← p.qln, List.getElem?_concat_length] at h1
        rw [List.getElem?_concat_length] at h2
        cases h1
        cases h2
        exact hqF.more (Nat.le_refl _)
    · rw [List.length_append, List.length_append, p.rln]; rfl
    · intro j q' h1 h2
      by_cases c : j < ts.length
      · rw [List.getElem?_append_left c] at h2
        obtain ⟨a, h3, h4⟩ := p2.row j q' c h2
        refine ⟨a, by rw [List.getElem?_append_left (by rw [p.rln]; exact c)]; exact h3, h4.but keep p2.notup fun m => ?_⟩
        obtain ⟨m1, m2⟩ := p.ne4 a (List.mem_of_getElem? h3)
        obtain ⟨xs4, h5, _⟩ := h4
        simp only [List.mem_cons, List.not_mem_nil, or_false] at m
        rcases m with z | z | z | z
        · exact ne_of h5 p2.at_ (by intro z; cases z) z
        · exact m1 z
        · exact m2 z
        · exact ne_of h5 p2.lat (by intro z; cases z) z
      · have c2 : j = ts.length := by
          rw [List.length_append, List.length_singleton] at h1
          omega
        subst c2
        rw [List.getElem?_concat_length] at h2
        cases h2
        refine ⟨pf, by rw [← p.rln, List.getElem?_concat_length], fs, pfF, (sf.ex e2).but keep p2.notup⟩
    · have h1 := putK_len kvs (Sum.inl (s : Int)) (.int (vs.length : Int))
      have h2 := p.lln
      rw [List.length_append, List.length_singleton]
      omega
    · intro j
      rw [get_keep, valV_put]
      by_cases c : j = s
      · subst c
        rw [if_pos rfl, if_pos rfl]
        exact ⟨ts.length, by rw [p.qln], by rw [List.getElem?_concat_length]⟩
      · rw [if_neg c, if_neg (fun z => c (by have := Sum.inl.inj z; omega))]
        have h1 := p.laid j
        cases hg : Rh06.get d j with
        | none => rw [hg] at h1; exact h1
        | some q' =>
          rw [hg] at h1
          obtain ⟨i, h2, h3⟩ := h1
          exact ⟨i, h2, by rw [List.getElem?_append_left (List.getElem?_eq_some_iff.mp h3).1]; exact h3⟩
    · intro a m
      rcases List.mem_append.mp m with m | m
      · exact p.ne4 a m
      · have := List.mem_singleton.mp m
        cases this
        exact ⟨fun z => pfo (by simp [z]), fun z => pfo (by simp [z])⟩
    · unfold foot at m ⊢
      simp only [List.mem_cons] at m ⊢
      rcases m with z | z | z | z | z | m
      · exact .inl (.inl z)
      · exact .inl (.inr (.inl z))
      · exact .inl (.inr (.inr (.inl z)))
      · exact .inl (.inr (.inr (.inr (.inl z))))
      · exact .inl (.inr (.inr (.inr (.inr (.inl z)))))
      · rcases List.mem_append.mp (mem_refs.mp m) with m | m
        · exact .inl (.inr (.inr (.inr (.inr (.inr (mem_refs.mpr m))))))
        · have := List.mem_singleton.mp m
          cases this
          exact .inr npf
end
end Nr

set_option Elab.async false
set_option linter.all false
set_option maxRecDepth 100000
set_option maxHeartbeats 2000000
namespace Nr
open PySem PySem.Spec PyProof.Rows L2 Evl
open Rh06 (Stretch)
/-- x.f = a new list, something behind -/
theorem q_fldL {K : PySem.W.Frag} {σ : L2.St} {H : Hp} {ta tv : TE} {f : Str} {xs : List V} {a C dx : Addr} {fs : List (Str × V)} {D : Ends} {tz : TS} (hv : EvL tv σ H xs) (h : Ev ta σ H (.ref a)) (ha : H a = some (.ins C dx fs)) (c : Cls K C) (n : NoAttr K C f) (hl : fs.length < 1000) (k : ∀ p H1, H p = none → Ex H H1 → H1 p = some (.lst xs) → tz D σ (upd H1 a (.ins C dx (putF f (.ref p) fs)))) : tSeq (sFld K ta tv f) tz D σ H :=
  hv H (Ex.refl H) _ fun p H1 np e1 hp => h H1 e1 _ fun H2 e2 => ⟨a, C, dx, fs, rfl, (e1.trans e2) _ _ ha, c, n, hl, k p H2 np (e1.trans e2) (e2 _ _ hp)⟩
/-- the desk with another text -/
def spChange (CN CQ : Addr) : Sp := fun vs H Q _ => ∃ (st aw : Addr) (own : List Addr) (d : Rh06.St) (ts : List Rh06.Q) (t : List Nat), vs = [.ref st, .ref aw] ∧ DeskAt CN CQ H st own d ts ∧ ts.length ≤ 1000 ∧ H aw = some (.lst (nums t)) ∧ t.length ≤ 60 ∧ aw ∉ own ∧
  ∀ H' own', DeskAt CN CQ H' st own' { d with text := t } ts → Frame H H' own own' → Q (.int (t.length : Int)) H'
section
variable {P : Program} {w : World} {K : PySem.W.Frag} {mg : Str → Option Value} {base : Heap} {CN CQ : Addr}
theorem m_change {f : Addr} {fd : FuncData} (TN : ClsN K CN) (TQ : ClsQ K CQ) (me : Meth K CN "change_text" f) (F : C8.Fun K "change_text" "Nearness.change_text" sChangeText f fd) (b : Binds K fd ["self", "words"] [])
    (ST : C8.Met P w K mg base 7 CQ "stretches_in" (spStr K CQ) []) (ml : mg "len" = none) (mt : mg "list" = none) : C8.Met P w K mg base 8 CN "change_text" (spChange CN CQ) [] := by
  have sc : FnScope ["self", "words", "found", "question"] ["self", "words"] (C8.fnScope sChangeText) := C8.fnScope_by (by decide +kernel)
  refine C8.met0 TN.cl me F b sc (fun vs H Q E h => ?_) (fun cdv A outer s H vs Q E hr h => ⟨_,
    pss_cons (ps_set (i := 2) sc.nd rfl (Or.inl rfl) (pe_lst pa_nil))
    (pss_cons (ps_for PassesOwn.never rfl (pi_list (pe_fld (pv 0) rfl)) (pg_name (i := 3) sc.nd rfl (Or.inl rfl))
      (pss_one (ps_expr (pe_bm PySem.F.plainAttrs_list PySem.F.slot_list_append PySem.F.type_list_append mt_append (pv 2) (pa_cons (C8.pe_mt ST hr (by decide) (pv 3) (pa_cons (pv 1) (pa_cons (pv 2) pa_nil))) pa_nil)))))
    (pss_cons (ps_fld (pv 0) (pe_callTy call_list_of rfl mt boot_list (pa_cons (pv 1) pa_nil)) rfl)
    (pss_cons (ps_fld (pv 0) (pv 2) rfl)
    (pss_one (ps_ret (pe_callB call_len_seq rfl ml PySem.boot_len (pa_cons (pv 1) pa_nil))))))), ?_⟩)
  · obtain ⟨st, aw, own, d, ts, t, rfl, _⟩ := h
    rfl
  · obtain ⟨st, aw, own, d, ts, t, rfl, ⟨dx, pw, pq, ps, pl, vs, rs, kvs, rfl, p⟩, htn, hw, hl, hao, k⟩ := h
    refine q_asgL (el_lst ea_nil (Nat.zero_le _)) fun pf H1 npf e1 hpf => ?_
    have p1 := p.ex e1
    refine q_forLn (xs := vs) (ev_fld (ev_var rfl) p1.at_ TN.cl TN.nq NF_questions) (sq_of p1.qat) (fun i σ' H' => ∃ v ks, σ' = [some (.ref st), some (.ref aw), some (.ref pf), v] ∧ Ex H H' ∧ H' pf = some (.lst ks) ∧ ks.length = i ∧ Rows H' t ts i ks ∧ ∀ a, V.ref a ∈ ks → a ≠ pf ∧ H a = none)
      (fun H2 e2 => ⟨none, [], rfl, e1.trans e2, e2 _ _ hpf, rfl, (fun j q h => absurd h (Nat.not_lt_zero _)), fun a m => nomatch m⟩) (fun i σ' H' _ ⟨_, _, _, e, _⟩ => sq_of (e _ _ p.qat)) ?_ ?_
    · rintro i x σ' H' hi ⟨v, ks, rfl, e, hk, lk, rk, nk⟩
      have il : i < ts.length := by rw [← p.qln]; exact (List.getElem?_eq_some_iff.mp hi).1
      obtain ⟨q, hq⟩ : ∃ q, ts[i]? = some q := ⟨_, List.getElem?_eq_getElem il⟩
      have qi := (p.qis i x q hi hq).ex e
      obtain ⟨qa, qdx, qk, qp, qw, rfl, hqa⟩ := qi.size
      refine s_appS (r := Rh06.row t q) hk (ev_var rfl) (es_meth (ev_var rfl) hqa QF_str (ea_cons (ev_var rfl) (ea_cons (ev_var rfl) ea_nil))
        fun H2 e2 Q2 k2 E2 => ⟨.ref qa, aw, pf, t, ts, i, q, ks, rfl, qi.ex e2, sq_of ((e.trans e2) _ _ hw), hl, sq_of (e2 _ _ hk), fun j q' h1 h2 => ?_, k2⟩) (by omega) fun pr zs H2 npr e2 hpr sr => ?_
      · obtain ⟨a, h3, h4⟩ := rk j q' h1 h2
        exact ⟨a, h3, h4.ex e2⟩
      · have prf : pr ≠ pf := fun z => by rw [z, hk] at npr; cases npr
        have keep : ∀ b o, H2 b = some o → b ∉ [pf] → (upd H2 pf (.lst (ks ++ [.ref pr]))) b = some o := fun b o h m => by
          rw [upd_ne (fun z => m (List.mem_singleton.mpr z))]
          exact h
        have nt : ∀ b ∈ [pf], ∀ xs, H2 b ≠ some (.tup xs) := fun b m xs h => by
          rw [List.mem_singleton.mp m, e2 _ _ hk] at h
          cases h
        refine ⟨some (.ref qa), ks ++ [.ref pr], rfl, Ex.mut (e.trans e2) npf, upd_same, by rw [List.length_append, lk]; rfl, fun j q' h1 h2 => ?_, fun a m => ?_⟩
        · by_cases c : j < i
          · obtain ⟨a, h3, h4⟩ := rk j q' c h2
            exact ⟨a, by rw [List.getElem?_append_left (by omega)]; exact h3, (h4.ex e2).but keep nt (fun m => (nk a (List.mem_of_getElem? h3)).1 (List.mem_singleton.mp m))⟩
          · have c2 : j = i := by omega
            subst c2
            rw [hq] at h2
            cases h2
            refine ⟨pr, by rw [← lk, List.getElem?_concat_length], zs, ?_, sr.but keep nt⟩
            rw [upd_ne prf]
            exact hpr
        · rcases List.mem_append.mp m with m | m
          · exact nk a m
          · have := List.mem_singleton.mp m
            cases this
            exact ⟨prf, fresh_back e npr⟩
    · rintro σ' H' ⟨v, ks, rfl, e, hk, lk, rk, nk⟩
      have p2 := p.ex e
      -- self.words = list(words)
      refine q_fldL (el_list (K := K) (ev_var rfl) (sq_of (e _ _ hw))) (ev_var rfl) p2.at_ TN.cl TN.nw (by show 4 < 1000; decide) fun pc H3 npc e3 hpc => ?_
      rw [NF_putW]
      have p3 := p2.ex e3
      -- self.stretches = found
      refine q_fld (y := .ref pf) (ev_var rfl) (ev_var rfl) upd_same TN.cl TN.ns (by show 4 < 1000; decide) fun H4 e4 => ?_
      rw [NF_putS]
      generalize hF : upd H4 st (.ins CN dx (NF pc pq pf pl)) = HF
      have keep : ∀ b o, H3 b = some o → b ∉ [st, pq, ps, pl] → HF b = some o := fun b o h m => by
        simp only [List.mem_cons, List.not_mem_nil, or_false, not_or] at m
        rw [← hF, upd_ne m.1]
        refine e4 _ _ ?_
        rw [upd_ne m.1]
        exact h
      have keep1 : ∀ b o, H3 b = some o → b ∉ [st] → HF b = some o := fun b o h m => by
        have m' : b ≠ st := fun z => m (List.mem_singleton.mpr z)
        rw [← hF, upd_ne m']
        refine e4 _ _ ?_
        rw [upd_ne m']
        exact h
      have eo : Ex H H3 := e.trans e3
      have nt1 : ∀ b ∈ [st], ∀ xs, H3 b ≠ some (.tup xs) := fun b m xs h => by
        rw [List.mem_singleton.mp m, p3.at_] at h
        cases h
      have nq1 : ∀ b ∈ [st], ∀ C dx k p w n, H3 b ≠ some (.ins C dx (QF k p w n)) := fun b m => p3.noq b (by rw [List.mem_singleton.mp m]; exact List.mem_cons_self ..)
      have lst1 : ∀ {b : Addr} {zs : List V}, H3 b = some (.lst zs) → b ∉ [st] := fun {b zs} h m => by
        rw [List.mem_singleton.mp m, p3.at_] at h
        cases h
      have pfF : HF pf = some (.lst ks) := keep1 _ _ (e3 _ _ hk) (lst1 (e3 _ _ hk))
      have pcF : HF pc = some (.lst (nums t)) := keep1 _ _ hpc (lst1 hpc)
      have atF : HF st = some (.ins CN dx (NF pc pq pf pl)) := by rw [← hF]; exact upd_same
      have qF : HF pq = some (.lst vs) := keep1 _ _ p3.qat (lst1 p3.qat)
      have lF : HF pl = some (.dK kvs) := keep1 _ _ p3.lat (fun m => by have := List.mem_singleton.mp m; exact ne_of p3.lat p3.at_ (by intro z; cases z) this)
      have pcn : H pc = none := fresh_back e npc
      refine s_ret (v := .int (t.length : Int)) (ev_is (ev_len (K := K) (xs := nums t) (ev_var rfl) (sq_of (keep _ _ (eo _ _ hw) (fun z => hao (foot_four z))))) (by unfold nums; rw [List.length_map])) fun H6 e6 => ?_
      refine k H6 (foot st pc pq pf pl ks) (DeskAt.ex ⟨dx, pc, pq, pf, pl, vs, ks, kvs, rfl, ⟨atF, pcF, hl, qF, p.qln, fun i v' q' h1 h2 => (p3.qis i v' q' h1 h2).but keep1 nt1 nq1, pfF, by rw [lk, p.qln], ?_, lF, p.lln, p.laid, ?_, ?_, ?_, ?_⟩⟩ e6)
        ⟨fun b o h m => e6 _ _ (keep b o (eo _ _ h) (fun z => m (foot_four z))), fun b m => ?_⟩
      · intro j q' h1 h2
        obtain ⟨a, h3, h4⟩ := rk j q' (by rw [p.qln]; exact h1) h2
        obtain ⟨zs, h5, _⟩ := id h4
        exact ⟨a, h3, (h4.ex e3).but keep1 nt1 (lst1 (e3 _ _ h5))⟩
      · intro z
        rw [← z, p.qat] at npf
        cases npf
      · intro z
        rw [z, p.qat] at pcn
        cases pcn
      · intro z
        rw [z, hk] at npc
        cases npc
      · intro a m
        obtain ⟨m1, m2⟩ := nk a m
        exact ⟨(fun z => by rw [z, p.qat] at m2; cases m2), m1⟩
      · unfold foot at m ⊢
        simp only [List.mem_cons] at m ⊢
        rcases m with z | z | z | z | z | m
        · exact .inl (.inl z)
        · exact .inl (.inr (.inl z))
        · exact .inr (by rw [z]; exact npf)
        · exact .inl (.inr (.inr (.inr (.inl z))))
        · exact .inr (by rw [z]; exact pcn)
        · exact .inr (nk b (mem_refs.mp m)).2
end
end Nr

set_option Elab.async false
set_option linter.all false
set_option maxRecDepth 100000
set_option maxHeartbeats 2000000
namespace Nr
open PySem PySem.Spec PyProof.Rows L2 Evl
open Rh06 (Stretch)
theorem ev_chain {σ : L2.St} {H : Hp} {ta tb tc : TE} {i j k : Int} (ha : Ev ta σ H (.int i)) (hb : Ev tb σ H (.int j)) (hc : Ev tc σ H (.int k)) : Ev (tChain (rI0 fun i j => .bl (decide (i ≤ j))) (rI0 fun i j => .bl (decide (i ≤ j))) ta tb tc) σ H (.bl (decide (i ≤ j) && decide (j ≤ k))) := fun H1 e Q q =>
  ha H1 e _ fun H2 e2 => hb H2 (e.trans e2) _ fun H3 e3 => ⟨i, j, rfl, rfl, decide (i ≤ j), rfl, by
    by_cases c : i ≤ j
    · rw [if_pos (decide_eq_true c)]
      refine hc H3 ((e.trans e2).trans e3) _ fun H4 e4 => ⟨j, k, rfl, rfl, ?_⟩
      have := q H4 ((e2.trans e3).trans e4)
      rw [decide_eq_true c, Bool.true_and] at this
      exact this
    · rw [if_neg (by simp [c])]
      have := q H3 (e2.trans e3)
      rw [decide_eq_false c, Bool.false_and] at this
      exact this⟩
def spIsWord : Sp := fun vs H Q _ => ∃ n : Nat, vs = [.int (n : Int)] ∧ RetV (.bl (Rh06.isWord n)) H Q
def spIsQuestion : Sp := fun vs H Q _ => ∃ n : Nat, vs = [.int (n : Int)] ∧ RetV (.bl (Rh06.isSlot n)) H Q
def spAreWords (K : PySem.W.Frag) : Sp := fun vs H Q _ => ∃ (a : Addr) (t : List Nat), vs = [.ref a] ∧ WAt K H a t ∧ t.length ≤ 10000 ∧ RetV (.bl (t.all Rh06.isWord)) H Q
theorem ev_allL {K : PySem.W.Frag} {σ : L2.St} {H : Hp} {te : TE} {bs : List Bool} (h : EvL te σ H (bs.map V.bl)) : Ev (tCB (rAll K) (tCons te tNil)) σ H (.bl (bs.all id)) := fun H1 e Q q =>
  h H1 e _ fun p H2 _ e2 hp => ⟨p, bs, rfl, sq_of hp, q H2 e2⟩
theorem given_all {α : Type} (t : List α) (d : α) (g : α → V) : given t.length (fun _ => true) (fun i => g (t.getD i d)) = t.map g := by
  unfold given
  rw [List.filter_eq_self.mpr (fun _ _ => rfl)]
  apply List.ext_getElem?
  intro i
  rw [List.getElem?_map, List.getElem?_map]
  by_cases hi : i < t.length
  · rw [List.getElem?_range hi, List.getElem?_eq_getElem hi]
    simp [List.getD, hi]
  · rw [List.getElem?_eq_none (by simpa using hi), List.getElem?_eq_none (by simpa using hi)]
    rfl
section
variable {P : Program} {w : World} {K : PySem.W.Frag} {mg : Str → Option Value} {base : Heap} {CN CQ : Addr}
theorem c_isWord {f : Addr} {fd : FuncData} (D : C8.Def K mg "is_word" sIsWord f fd) (b : Binds K fd ["number"] []) (n1 : Num mg "HIGHEST_WORD" 30) : C8.Cal P w K mg base 1 "is_word" spIsWord [] := by
  refine C8.cal0 D b .nil (C8.fnScope_by (N := ["number"]) (by decide +kernel)) (fun vs H Q E h => ?_) (fun cdv A outer s H vs Q E hr h => ⟨_, pss_one (ps_ret (pe_chain op_le op_le pe_int (pv 0) (C8.pe_gc rfl n1))), ?_⟩)
  · obtain ⟨n, rfl, _⟩ := h
    rfl
  · obtain ⟨n, rfl, q⟩ := h
    refine s_ret (ev_is (ev_chain ev_c (ev_var rfl) ev_c) ?_) q
    unfold Rh06.isWord
    congr 2 <;> (rw [decide_eq_decide]; omega)
theorem c_isQuestion {f : Addr} {fd : FuncData} (D : C8.Def K mg "is_question" sIsQuestion f fd) (b : Binds K fd ["number"] []) (n1 : Num mg "HIGHEST_QUESTION" 20) : C8.Cal P w K mg base 1 "is_question" spIsQuestion [] := by
  refine C8.cal0 D b .nil (C8.fnScope_by (N := ["number"]) (by decide +kernel)) (fun vs H Q E h => ?_) (fun cdv A outer s H vs Q E hr h => ⟨_, pss_one (ps_ret (pe_chain op_le op_le pe_int (pv 0) (C8.pe_gc rfl n1))), ?_⟩)
  · obtain ⟨n, rfl, _⟩ := h
    rfl
  · obtain ⟨n, rfl, q⟩ := h
    refine s_ret (ev_is (ev_chain ev_c (ev_var rfl) ev_c) ?_) q
    unfold Rh06.isSlot
    congr 2 <;> (rw [decide_eq_decide]; omega)
theorem c_areWords {f : Addr} {fd : FuncData} (D : C8.Def K mg "are_words" sAreWords f fd) (b : Binds K fd ["numbers"] []) (IW : C8.Cal P w K mg base 1 "is_word" spIsWord []) (ma : mg "all" = none) : C8.Cal P w K mg base 2 "are_words" (spAreWords K) [] := by
  have sc : FnScope ["numbers", "number"] ["numbers"] (C8.fnScope sAreWords) := C8.fnScope_by (by decide +kernel)
  refine C8.cal0 D b .nil sc (fun vs H Q E h => ?_) (fun cdv A outer s H vs Q E hr h => ⟨_, pss_one (ps_ret (pe_callB (cr_all rfl) rfl ma PyProof.Rows.boot_all (pa_cons
    (pe_lc (own := [("number", 1)]) (g := gName 1) (tt := tYes) rfl sc.nd (pi_list (pv 0)) (blkOk_by (N := ["numbers", "number"]) (sc := C8.fnScope sAreWords) (by decide +kernel))
      (fun _ _ _ _ _ => pg_name (i := 1) sc.nd rfl (Or.inl rfl)) (fun _ _ _ _ _ => pts_nil) (fun _ _ _ _ _ => C8.pe_c IW hr (by decide) rfl (pa_cons (pv 1) pa_nil))) pa_nil))), ?_⟩)
  · obtain ⟨a, t, rfl, _⟩ := h
    rfl
  · obtain ⟨a, t, rfl, hw, hl, q⟩ := h
    have e0 : t.all Rh06.isWord = (t.map Rh06.isWord).all id := by rw [List.all_map]; rfl
    rw [e0] at q
    refine s_ret (ev_allL (bs := t.map Rh06.isWord) ?_) q
    have e1 : (t.map Rh06.isWord).map V.bl = given (t.map fun (n : Nat) => V.int (n : Int)).length (fun _ => true) (fun i => V.bl (Rh06.isWord (t.getD i 0))) := by
      rw [List.length_map, given_all t 0 (fun n => V.bl (Rh06.isWord n)), List.map_map]
      rfl
    rw [e1]
    refine el_lcL _ _ (ev_var rfl) hw (by rw [List.length_map]; omega) (fun _ => rfl) (fun i y H1 e1 hi H2 e2 Q k => k H2 (Ex.refl H2)) fun i y H1 e1 hi _ => ?_
    rw [List.getElem?_map] at hi
    cases ht : t[i]? with
    | none => rw [ht] at hi; cases hi
    | some n =>
      rw [ht] at hi
      cases hi
      rw [List.getD_eq_getElem?_getD, ht]
      exact ev_call (ea_cons (ev_var rfl) ea_nil) fun H2 e2 Q k E => ⟨n, rfl, k⟩
/-! ### the text -/
/-- a refusal: all is as it was -/
def stays (CN CQ : Addr) (st : Addr) (own : List Addr) (d : Rh06.St) (ts : List Rh06.Q) (H : Hp) (n : Int) (Q : VK) : Prop := ∀ H', Ex H H' → Q (.int n) H'
/-- behind a call: the desk that is due, one answered number -/
def After (CN CQ : Addr) (st : Addr) (own : List Addr) (ts : List Rh06.Q) (H : Hp) (r : Rh06.St × List Int) (Q : VK) : Prop :=
  ∀ (H' : Hp) (own' : List Addr) (ts' : List Rh06.Q) (z : Int), r.2 = [z] → DeskAt CN CQ H' st own' r.1 ts' → ts'.length ≤ ts.length + 1 → Frame H H' own own' → Q (.int z) H'
theorem After.same {CN CQ st : Addr} {own : List Addr} {d : Rh06.St} {ts : List Rh06.Q} {H H' : Hp} {z : Int} {Q : VK} (k : After CN CQ st own ts H (d, [z]) Q) (h : DeskAt CN CQ H st own d ts) (e : Ex H H') : Q (.int z) H' :=
  k H' own ts z rfl (h.ex e) (Nat.le_succ _) ⟨fun b o hb _ => e _ _ hb, fun b m => .inl m⟩
def spTake (CN CQ : Addr) : Sp := fun vs H Q _ => ∃ (st aw : Addr) (own : List Addr) (d : Rh06.St) (ts : List Rh06.Q) (t : List Nat), vs = [.ref st, .ref aw] ∧ DeskAt CN CQ H st own d ts ∧ ts.length ≤ 500 ∧ H aw = some (.lst (nums t)) ∧ t.length ≤ 5000 ∧ aw ∉ own ∧ After CN CQ st own ts H (Rh06.step d (.text t)) Q
def spAdd (CN CQ : Addr) : Sp := fun vs H Q _ => ∃ (st aw : Addr) (own : List Addr) (d : Rh06.St) (ts : List Rh06.Q) (t : List Nat), vs = [.ref st, .ref aw] ∧ DeskAt CN CQ H st own d ts ∧ ts.length ≤ 500 ∧ H aw = some (.lst (nums t)) ∧ t.length ≤ 5000 ∧ aw ∉ own ∧ After CN CQ st own ts H (Rh06.step d (.add t)) Q
def spCut (CN CQ : Addr) : Sp := fun vs H Q _ => ∃ (st : Addr) (own : List Addr) (d : Rh06.St) (ts : List Rh06.Q) (n : Nat), vs = [.ref st, .int (n : Int)] ∧ DeskAt CN CQ H st own d ts ∧ ts.length ≤ 500 ∧ After CN CQ st own ts H (Rh06.step d (.cut n)) Q
theorem m_take {f : Addr} {fd : FuncData} (TN : ClsN K CN) (me : Meth K CN "take_text" f) (F : C8.Fun K "take_text" "Nearness.take_text" sTakeText f fd) (b : Binds K fd ["self", "words"] [])
    (CH : C8.Met P w K mg base 8 CN "change_text" (spChange CN CQ) []) (AW : C8.Cal P w K mg base 2 "are_words" (spAreWords K) []) (ml : mg "len" = none) (n1 : Num mg "MOST_PLACES" 60) (n2 : Num mg "OUT_OF_BOUNDS" (-1)) : C8.Met P w K mg base 9 CN "take_text" (spTake CN CQ) [] := by
  have sc : FnScope ["self", "words"] ["self", "words"] (C8.fnScope sTakeText) := C8.fnScope_by (by decide +kernel)
  refine C8.met0 TN.cl me F b sc (fun vs H Q E h => ?_) (fun cdv A outer s H vs Q E hr h => ⟨_,
    pss_cons (ps_if (PW.pt (pw_or (pt_not (pt_val (C8.pe_c AW hr (by decide) rfl (pa_cons (pv 1) pa_nil)))) (pw_or1 (pt_cmpR op_gt (pe_callB call_len_seq rfl ml PySem.boot_len (pa_cons (pv 1) pa_nil)) (C8.pe_gc rfl n1) (nomark _)))))
      (pss_one (ps_ret (C8.pe_gc rfl n2))) pss_nil)
    (pss_one (ps_ret (C8.pe_mt CH hr (by decide) (pv 0) (pa_cons (pv 1) pa_nil)))), ?_⟩)
  · obtain ⟨st, aw, own, d, ts, t, rfl, _⟩ := h
    rfl
  · obtain ⟨st, aw, own, d, ts, t, rfl, hd, htn, hw, hl, hao, k⟩ := h
    have hw' : WAt K H aw t := sq_of hw
    refine q_when (b := !(t.all Rh06.isWord) || decide (60 < t.length)) (et_or (et_not (et_B (ev_call (ea_cons (ev_var rfl) ea_nil) fun H2 e2 Q k E => ⟨aw, t, rfl, ex_l e2 hw', by omega, k⟩))) fun _ => et_test (ev_is (ev_op (ev_len (K := K) (ev_var rfl) hw') ev_c rv_I0) ?_)) (fun c H1 e1 => ?_) (fun c H1 e1 => ?_)
    · rw [List.length_map]
      congr 1
      rw [decide_eq_decide]
      omega
    · have st1 : Rh06.step d (.text t) = (d, [-1]) := by
        show (if t.all Rh06.isWord = false ∨ 60 < t.length then (d, [-1]) else _) = _
        rw [if_pos]
        simpa using c
      rw [st1] at k
      exact s_ret (v := .int (-1)) ev_c fun H2 e2 => k.same hd (e1.trans e2)
    · have c' : t.all Rh06.isWord = true ∧ ¬ 60 < t.length := by
        simp only [Bool.or_eq_false_iff, Bool.not_eq_false', decide_eq_false_iff_not] at c
        exact c
      have st1 : Rh06.step d (.text t) = ({ d with text := t }, [((t.length : Nat) : Int)]) := by
        show (if t.all Rh06.isWord = false ∨ 60 < t.length then (d, [-1]) else _) = _
        rw [if_neg (by rw [c'.1]; simp; omega)]
        rfl
      rw [st1] at k
      obtain ⟨dx, pw, pq, ps, pl, vs, rs, kvs, rfl, p⟩ := id hd
      refine s_retM (ev_var rfl) (e1 _ _ p.at_) (NF_no (by decide +kernel) (by decide +kernel) (by decide +kernel) (by decide +kernel)) (ea_cons (ev_var rfl) ea_nil) fun H2 e2 => ⟨st, aw, _, d, ts, t, rfl, hd.ex (e1.trans e2), by omega, (e1.trans e2) _ _ hw, by omega, hao, fun H' own' h1 h2 => ?_⟩
      exact k H' own' ts _ rfl h1 (Nat.le_succ _) (h2.ex (e1.trans e2))
end
end Nr

set_option Elab.async false
set_option linter.all false
set_option maxRecDepth 100000
set_option maxHeartbeats 2000000
namespace Nr
open PySem PySem.Spec PyProof.Rows L2 Evl
open Rh06 (Stretch)
theorem ev_dnotin {σ : L2.St} {H : Hp} {ty td : TE} {pl : Addr} {kvs : List (Key × V)} {n : Nat} {b : Bool} (hy : Ev ty σ H (.int (n : Int))) (hd : Ev td σ H (.ref pl)) (hl : H pl = some (.dK kvs)) (hb : (valV kvs (.inl (n : Int))).isSome = b) : Ev (tDNotIn ty td) σ H (.bl (!b)) := fun H1 e Q q =>
  hy H1 e _ fun H2 e2 => hd H2 (e.trans e2) _ fun H3 e3 => ⟨pl, valV kvs (.inl (n : Int)), rfl, DGet.k (k := Sum.inl (n : Int)) (((e.trans e2).trans e3) _ _ hl), by rw [hb]; exact q H3 (e2.trans e3)⟩
theorem ev_dget {σ : L2.St} {H : Hp} {ty td : TE} {pl : Addr} {kvs : List (Key × V)} {k : Key} {v : V} (hd : Ev td σ H (.ref pl)) (hy : Ev ty σ H (kV k)) (hl : H pl = some (.dK kvs)) (hv : valV kvs k = some v) : Ev (tDGet td ty) σ H v := fun H1 e Q q =>
  hd H1 e _ fun H2 e2 => hy H2 (e.trans e2) _ fun H3 e3 => ⟨pl, v, rfl, by rw [← hv]; exact DGet.k (((e.trans e2).trans e3) _ _ hl), q H3 (e2.trans e3)⟩
theorem laid_some {d : Rh06.St} {kvs : List (Key × V)} {ts : List Rh06.Q} (h : ∀ s : Nat, match Rh06.get d s with
    | none => valV kvs (.inl (s : Int)) = none
    | some q => ∃ i : Nat, valV kvs (.inl (s : Int)) = some (.int (i : Int)) ∧ ts[i]? = some q) (s : Nat) : (valV kvs (.inl (s : Int))).isSome = (Rh06.get d s).isSome := by
  have := h s
  cases g : Rh06.get d s with
  | none => rw [g] at this; rw [show valV kvs (.inl (s : Int)) = none from this]; rfl
  | some q =>
    rw [g] at this
    obtain ⟨i, h1, _⟩ := this
    rw [h1]
    rfl
theorem nums_len (t : List Nat) : (nums t).length = t.length := List.length_map _
theorem nums_app (t r : List Nat) : nums t ++ nums r = nums (t ++ r) := (List.map_append ..).symm
theorem cut_take (xs : List V) (n : Nat) : cutV xs none (some (n : Int)) = xs.take n := by
  unfold cutV
  rw [HT.sIx_none, HT.sIx_nat, List.drop_zero, Nat.sub_zero]
  by_cases c : n ≤ xs.length
  · rw [Nat.min_eq_left c]
  · rw [Nat.min_eq_right (by omega), List.take_length, List.take_of_length_le (by omega)]
section
variable {P : Program} {w : World} {K : PySem.W.Frag} {mg : Str → Option Value} {base : Heap} {CN CQ : Addr}
/-- return o.m(a new list) -/
theorem s_retML {σ : L2.St} {H : Hp} {ta te : TE} {D : Ends} {C a dx : Addr} {m : Str} {sp : Sp} {xs : List V} {E : XK} {fs : List (Str × V)} (ho : Ev ta σ H (.ref a)) (ha : H a = some (.ins C dx fs)) (hm : fs.lookup m = none) (h : EvL te σ H xs) (hs : ∀ p H1, H p = none → Ex H H1 → H1 p = some (.lst xs) → sp [.ref a, .ref p] H1 D.rt E) : tRet (tMeth C m sp [] E ta (tCons te tNil)) D σ H :=
  ho H (Ex.refl H) _ fun H2 e2 => ⟨a, dx, fs, rfl, e2 _ _ ha, hm, h H2 e2 _ fun p H3 np e3 hp => hs p H3 (fresh_back e2 np) (e2.trans e3) hp⟩
theorem m_add {f : Addr} {fd : FuncData} (TN : ClsN K CN) (me : Meth K CN "add_words" f) (F : C8.Fun K "add_words" "Nearness.add_words" sAddWords f fd) (b : Binds K fd ["self", "words"] [])
    (CH : C8.Met P w K mg base 8 CN "change_text" (spChange CN CQ) []) (AW : C8.Cal P w K mg base 2 "are_words" (spAreWords K) []) (ml : mg "len" = none) (n1 : Num mg "MOST_PLACES" 60) (n2 : Num mg "OUT_OF_BOUNDS" (-1)) (n3 : Num mg "TOO_MANY" (-5)) : C8.Met P w K mg base 9 CN "add_words" (spAdd CN CQ) [] := by
  have sc : FnScope ["self", "words"] ["self", "words"] (C8.fnScope sAddWords) := C8.fnScope_by (by decide +kernel)
  refine C8.met0 TN.cl me F b sc (fun vs H Q E h => ?_) (fun cdv A outer s H vs Q E hr h => ⟨_,
    pss_cons (ps_if (pt_not (pt_val (C8.pe_c AW hr (by decide) rfl (pa_cons (pv 1) pa_nil)))) (pss_one (ps_ret (C8.pe_gc rfl n2))) pss_nil)
    (pss_cons (ps_if (pt_cmpR op_gt (pe_op op_add (pe_callB call_len_seq rfl ml PySem.boot_len (pa_cons (pe_fld (pv 0) rfl) pa_nil)) (pe_callB call_len_seq rfl ml PySem.boot_len (pa_cons (pv 1) pa_nil))) (C8.pe_gc rfl n1) (nomark _)) (pss_one (ps_ret (C8.pe_gc rfl n3))) pss_nil)
    (pss_one (ps_ret (C8.pe_mt CH hr (by decide) (pv 0) (pa_cons (pe_op op_cat (pe_fld (pv 0) rfl) (pv 1)) pa_nil))))), ?_⟩)
  · obtain ⟨st, aw, own, d, ts, t, rfl, _⟩ := h
    rfl
  · obtain ⟨st, aw, own, d, ts, t, rfl, hd, htn, hw, hl, hao, k⟩ := h
    have hw' : WAt K H aw t := sq_of hw
    obtain ⟨dx, pw, pq, ps, pl, vs, rs, kvs, rfl, p⟩ := id hd
    refine q_when (b := !(t.all Rh06.isWord)) (et_not (et_B (ev_call (ea_cons (ev_var rfl) ea_nil) fun H2 e2 Q k E => ⟨aw, t, rfl, ex_l e2 hw', by omega, k⟩))) (fun c H1 e1 => ?_) (fun c H1 e1 => ?_)
    · have c' : t.all Rh06.isWord = false := by simpa using c
      have st1 : Rh06.step d (.add t) = (d, [-1]) := by
        show (if t.all Rh06.isWord = false then (d, [-1]) else _) = _
        rw [if_pos c']
      rw [st1] at k
      exact s_ret (v := .int (-1)) ev_c fun H2 e2 => k.same hd (e1.trans e2)
    · have c' : ¬ t.all Rh06.isWord = false := by rw [show t.all Rh06.isWord = true by simpa using c]; decide
      have p1 := p.ex e1
      refine q_when (b := decide (60 < d.text.length + t.length)) (et_test (ev_is (ev_op (ev_op (ev_len (K := K) (xs := nums d.text) (ev_fld (ev_var rfl) p1.at_ TN.cl TN.nw NF_words) (sq_of p1.wat)) (ev_len (K := K) (xs := nums t) (ev_var rfl) (ex_l e1 hw')) rv_I0) ev_c rv_I0) ?_)) (fun c2 H2 e2 => ?_) (fun c2 H2 e2 => ?_)
      · rw [nums_len, nums_len]
        congr 1
        rw [decide_eq_decide]
        omega
      · have c2' : 60 < d.text.length + t.length := by simpa using c2
        have st1 : Rh06.step d (.add t) = (d, [-5]) := by
          show (if t.all Rh06.isWord = false then (d, [-1]) else if 60 < d.text.length + t.length then (d, [-5]) else _) = _
          rw [if_neg c', if_pos c2']
        rw [st1] at k
        exact s_ret (v := .int (-5)) ev_c fun H3 e3 => k.same hd ((e1.trans e2).trans e3)
      · have c2' : ¬ 60 < d.text.length + t.length := by simpa using c2
        have st1 : Rh06.step d (.add t) = ({ d with text := d.text ++ t }, [(((d.text ++ t).length : Nat) : Int)]) := by
          show (if t.all Rh06.isWord = false then (d, [-1]) else if 60 < d.text.length + t.length then (d, [-5]) else _) = _
          rw [if_neg c', if_neg c2']
          rfl
        rw [st1] at k
        have p2 := p1.ex e2
        have e12 := e1.trans e2
        refine s_retML (ev_var rfl) p2.at_ (NF_no (by decide +kernel) (by decide +kernel) (by decide +kernel) (by decide +kernel)) (el_cat (ev_fld (ev_var rfl) p2.at_ TN.cl TN.nw NF_words) (ev_var rfl) p2.wat (e12 _ _ hw) (by rw [nums_len, nums_len]; omega)) fun pn H3 np e3 hp => ?_
        rw [nums_app] at hp
        exact ⟨st, pn, _, d, ts, d.text ++ t, rfl, hd.ex (e12.trans e3), by omega, hp, by rw [List.length_append]; omega, (hd.ex e12).fresh np, fun H' own' h1 h2 => k H' own' ts _ rfl h1 (Nat.le_succ _) (h2.ex (e12.trans e3))⟩
theorem m_cut {f : Addr} {fd : FuncData} (TN : ClsN K CN) (me : Meth K CN "cut_text" f) (F : C8.Fun K "cut_text" "Nearness.cut_text" sCutText f fd) (b : Binds K fd ["self", "most"] [])
    (CH : C8.Met P w K mg base 8 CN "change_text" (spChange CN CQ) []) : C8.Met P w K mg base 9 CN "cut_text" (spCut CN CQ) [] := by
  have sc : FnScope ["self", "most"] ["self", "most"] (C8.fnScope sCutText) := C8.fnScope_by (by decide +kernel)
  refine C8.met0 TN.cl me F b sc (fun vs H Q E h => ?_) (fun cdv A outer s H vs Q E hr h => ⟨_,
    pss_one (ps_ret (C8.pe_mt CH hr (by decide) (pv 0) (pa_cons (pe_slice sl_list (pe_fld (pv 0) rfl) po_none (po_some (pv 1))) pa_nil))), ?_⟩)
  · obtain ⟨st, own, d, ts, n, rfl, _⟩ := h
    rfl
  · obtain ⟨st, own, d, ts, n, rfl, hd, htn, k⟩ := h
    obtain ⟨dx, pw, pq, ps, pl, vs, rs, kvs, rfl, p⟩ := id hd
    refine s_retML (ev_var rfl) p.at_ (NF_no (by decide +kernel) (by decide +kernel) (by decide +kernel) (by decide +kernel)) (el_sl (ev_fld (ev_var rfl) p.at_ TN.cl TN.nw NF_words) eo_none (eo_some (ev_var rfl)) (sq_of p.wat)) fun pn H3 np e3 hp => ?_
    rw [cut_take, show (nums d.text).take n = nums (d.text.take n) from (List.map_take ..).symm] at hp
    exact ⟨st, pn, _, d, ts, d.text.take n, rfl, hd.ex e3, by omega, hp, by rw [List.length_take]; have := p.few; omega, hd.fresh np, fun H' own' h1 h2 => k H' own' ts _ rfl h1 (Nat.le_succ _) (h2.ex e3)⟩
/-- a new question is made -/
theorem q_made {C : Addr} {k pp wd n : V} {H : Hp} {E : XK} {x dx : Addr} {R : Hp → Prop} (nx : H x = none) (nd : H dx = none) (h : ∀ H2, Ex H H2 → H2 x = some (.ins C dx (QF k pp wd n)) → R H2) :
    spQInit C (.ref x :: ([k, pp, wd, n] ++ [])) (upd (upd H dx (.own x)) x (.ins C dx [])) (fun v H2 => v = .non ∧ R H2) E :=
  ⟨x, dx, k, pp, wd, n, rfl, upd_same, fun H' hx kp => ⟨rfl, h H' (Same.made nx nd kp) hx⟩⟩
/-! ### laying -/
def spLayWord (CN CQ : Addr) : Sp := fun vs H Q _ => ∃ (st : Addr) (own : List Addr) (d : Rh06.St) (ts : List Rh06.Q) (s wd : Nat), vs = [.ref st, .int (s : Int), .int (wd : Int)] ∧ DeskAt CN CQ H st own d ts ∧ ts.length ≤ 500 ∧ After CN CQ st own ts H (Rh06.step d (.word s wd)) Q
def spLayJoined (CN CQ : Addr) : Sp := fun vs H Q _ => ∃ (st : Addr) (own : List Addr) (d : Rh06.St) (ts : List Rh06.Q) (k s i j : Nat), vs = [.ref st, .int (k : Int), .int (s : Int), .int (i : Int), .int (j : Int)] ∧ 4 ≤ k ∧ k ≤ 12 ∧ DeskAt CN CQ H st own d ts ∧ ts.length ≤ 500 ∧ After CN CQ st own ts H (Rh06.step d (.join (k - 4) s i j)) Q
theorem m_layWord {f : Addr} {fd : FuncData} (TN : ClsN K CN) (TQ : ClsQ K CQ) (me : Meth K CN "lay_word" f) (F : C8.Fun K "lay_word" "Nearness.lay_word" sLayWord f fd) (b : Binds K fd ["self", "number", "word"] [])
    (LY : C8.Met P w K mg base 8 CN "lay" (spLay CN CQ) []) (QM : C8.Mak P w K mg base 1 "Question" CQ (spQInit CQ) []) (IW : C8.Cal P w K mg base 1 "is_word" spIsWord []) (IQ : C8.Cal P w K mg base 1 "is_question" spIsQuestion []) (n2 : Num mg "OUT_OF_BOUNDS" (-1)) (nW : Num mg "WORD" 3) : C8.Met P w K mg base 9 CN "lay_word" (spLayWord CN CQ) [] := by
  have sc : FnScope ["self", "number", "word"] ["self", "number", "word"] (C8.fnScope sLayWord) := C8.fnScope_by (by decide +kernel)
  refine C8.met0 TN.cl me F b sc (fun vs H Q E h => ?_) (fun cdv A outer s H vs Q E hr h => ⟨_,
    pss_cons (ps_if (PW.pt (pw_or (pt_not (pt_val (C8.pe_c IQ hr (by decide) rfl (pa_cons (pv 1) pa_nil)))) (pw_or1 (pt_not (pt_val (C8.pe_c IW hr (by decide) rfl (pa_cons (pv 2) pa_nil)))))))
      (pss_one (ps_ret (C8.pe_gc rfl n2))) pss_nil)
    (pss_one (ps_ret (C8.pe_mt LY hr (by decide) (pv 0) (pa_cons (pv 1) (pa_cons (C8.pe_mk QM hr (by decide) rfl (pa_cons (C8.pe_gc rfl nW) (pa_cons (pe_tup pa_nil) (pa_cons (pv 2) (pa_cons pe_int pa_nil))))) pa_nil))))), ?_⟩)
  · obtain ⟨st, own, d, ts, s, wd, rfl, _⟩ := h
    rfl
  · obtain ⟨st, own, d, ts, s, wd, rfl, hd, htn, k⟩ := h
    obtain ⟨dx, pw, pq, ps, pl, vs, rs, kvs, rfl, p⟩ := id hd
    refine q_when (b := !(Rh06.isSlot s) || !(Rh06.isWord wd)) (et_or (et_not (et_B (ev_call (ea_cons (ev_var rfl) ea_nil) fun H2 e2 Q k E => ⟨s, rfl, k⟩))) fun _ => et_not (et_B (ev_call (ea_cons (ev_var rfl) ea_nil) fun H2 e2 Q k E => ⟨wd, rfl, k⟩))) (fun c H1 e1 => ?_) (fun c H1 e1 => ?_)
    · have st1 : Rh06.step d (.word s wd) = (d, [-1]) := by
        show (if Rh06.isSlot s = false ∨ Rh06.isWord wd = false then (d, [-1]) else _) = _
        rw [if_pos]
        simpa using c
      rw [st1] at k
      exact s_ret (v := .int (-1)) ev_c fun H2 e2 => k.same hd (e1.trans e2)
    · have st1 : Rh06.step d (.word s wd) = (Rh06.keep d s (.word wd), [(((Rh06.row d.text (.word wd)).length : Nat) : Int)]) := by
        show (if Rh06.isSlot s = false ∨ Rh06.isWord wd = false then (d, [-1]) else _) = _
        rw [if_neg]
        · rfl
        · simp only [Bool.or_eq_false_iff, Bool.not_eq_false'] at c
          rw [c.1, c.2]
          simp
      rw [st1] at k
      have p1 := p.ex e1
      refine ⟨_, rfl, st, dx, _, rfl, p1.at_, NF_no (by decide +kernel) (by decide +kernel) (by decide +kernel) (by decide +kernel), _, rfl, ⟨Nat.zero_le _, fun pt npt => ⟨_, rfl, ?_⟩⟩⟩
      refine fun x xd nx nd ne => q_made nx nd fun H2 e2 hx => ?_
      have e12 : Ex H H2 := (e1.trans (Ex.new npt)).trans e2
      exact ⟨st, _, d, ts, s, .ref x, .word wd, rfl, hd.ex e12, by omega, .word hx, fun H' own' h1 h2 => k H' own' _ _ rfl h1 (by rw [List.length_append]; exact Nat.le_refl _) (h2.ex e12)⟩
theorem m_layJoined {f : Addr} {fd : FuncData} (TN : ClsN K CN) (TQ : ClsQ K CQ) (me : Meth K CN "lay_joined" f) (F : C8.Fun K "lay_joined" "Nearness.lay_joined" sLayJoined f fd) (b : Binds K fd ["self", "kind", "number", "left", "right"] [])
    (LY : C8.Met P w K mg base 8 CN "lay" (spLay CN CQ) []) (QM : C8.Mak P w K mg base 1 "Question" CQ (spQInit CQ) []) (IQ : C8.Cal P w K mg base 1 "is_question" spIsQuestion []) (n2 : Num mg "OUT_OF_BOUNDS" (-1)) (n3 : Num mg "NOT_LAID" (-2)) (n4 : Num mg "TOO_MANY" (-5)) (n5 : Num mg "MOST_WORDS_IN_A_QUESTION" 64) : C8.Met P w K mg base 9 CN "lay_joined" (spLayJoined CN CQ) [] := by
  have sc : FnScope ["self", "kind", "number", "left", "right", "parts", "size"] ["self", "kind", "number", "left", "right"] (C8.fnScope sLayJoined) := C8.fnScope_by (by decide +kernel)
  refine C8.met0 TN.cl me F b sc (fun vs H Q E h => ?_) (fun cdv A outer s H vs Q E hr h => ⟨_,
    pss_cons (ps_if (pt_not (pt_val (C8.pe_c IQ hr (by decide) rfl (pa_cons (pv 2) pa_nil)))) (pss_one (ps_ret (C8.pe_gc rfl n2))) pss_nil)
    (pss_cons (ps_if (PW.pt (pw_or (pt_cmp (pc_dnotin (hu_of hr) (pv 3) (pe_fld (pv 0) rfl))) (pw_or1 (pt_cmp (pc_dnotin (hu_of hr) (pv 4) (pe_fld (pv 0) rfl)))))) (pss_one (ps_ret (C8.pe_gc rfl n3))) pss_nil)
    (pss_cons (ps_set (i := 5) sc.nd rfl (Or.inl rfl) (pe_tup (pa_cons (pe_dget (hu_of hr) (pe_fld (pv 0) rfl) (pv 3) (fun _ _ => rfl)) (pa_cons (pe_dget (hu_of hr) (pe_fld (pv 0) rfl) (pv 4) (fun _ _ => rfl)) pa_nil))))
    (pss_cons (ps_set (i := 6) sc.nd rfl (Or.inl rfl) (pe_op op_add (pe_fld (pe_ix ix_list (pe_fld (pv 0) rfl) (pe_ix ix_tup (pv 5) pe_int (fun _ _ => rfl)) (fun _ _ => rfl)) rfl) (pe_fld (pe_ix ix_list (pe_fld (pv 0) rfl) (pe_ix ix_tup (pv 5) pe_int (fun _ _ => rfl)) (fun _ _ => rfl)) rfl)))
    (pss_cons (ps_if (pt_cmpR op_gt (pv 6) (C8.pe_gc rfl n5) (nomark _)) (pss_one (ps_ret (C8.pe_gc rfl n4))) pss_nil)
    (pss_one (ps_ret (C8.pe_mt LY hr (by decide) (pv 0) (pa_cons (pv 2) (pa_cons (C8.pe_mk QM hr (by decide) rfl (pa_cons (pv 1) (pa_cons (pv 5) (pa_cons pe_non (pa_cons (pv 6) pa_nil))))) pa_nil))))))))), ?_⟩)
  · obtain ⟨st, own, d, ts, k, s, i, j, rfl, _⟩ := h
    rfl
  · obtain ⟨st, own, d, ts, kk, s, i, j, rfl, k4, k12, hd, htn, k⟩ := h
    obtain ⟨dx, pw, pq, ps, pl, vs, rs, kvs, rfl, p⟩ := id hd
    refine q_when (b := !(Rh06.isSlot s)) (et_not (et_B (ev_call (ea_cons (ev_var rfl) ea_nil) fun H2 e2 Q k E => ⟨s, rfl, k⟩))) (fun c H1 e1 => ?_) (fun c H1 e1 => ?_)
    · have st1 : Rh06.step d (.join (kk - 4) s i j) = (d, [-1]) := by
        show (if Rh06.isSlot s = false then (d, [-1]) else _) = _
        rw [if_pos (by simpa using c)]
      rw [st1] at k
      exact s_ret (v := .int (-1)) ev_c fun H2 e2 => k.same hd (e1.trans e2)
    · have cs : ¬ Rh06.isSlot s = false := by rw [show Rh06.isSlot s = true by simpa using c]; decide
      have p1 := p.ex e1
      have stp : Rh06.step d (.join (kk - 4) s i j) = (match Rh06.get d i, Rh06.get d j with
          | some p, some q => if 64 < Rh06.size p + Rh06.size q then (d, [-5]) else Rh06.laid d s (Rh06.joined (kk - 4) p q)
          | _, _ => (d, [-2])) := by
        show (if Rh06.isSlot s = false then (d, [-1]) else _) = _
        rw [if_neg cs]
        rfl
      refine q_when (b := !(Rh06.get d i).isSome || !(Rh06.get d j).isSome) (et_or (et_B (ev_dnotin (ev_var rfl) (ev_fld (ev_var rfl) p1.at_ TN.cl TN.nl NF_laid) p1.lat (laid_some p.laid i))) fun _ => et_B (ev_dnotin (ev_var rfl) (ev_fld (ev_var rfl) p1.at_ TN.cl TN.nl NF_laid) p1.lat (laid_some p.laid j))) (fun c2 H2 e2 => ?_) (fun c2 H2 e2 => ?_)
      · have st1 : Rh06.step d (.join (kk - 4) s i j) = (d, [-2]) := by
          rw [stp]
          cases gi : Rh06.get d i with
          | none => rfl
          | some qi =>
            cases gj : Rh06.get d j with
            | none => rfl
            | some qj => rw [gi, gj] at c2; cases c2
        rw [st1] at k
        exact s_ret (v := .int (-2)) ev_c fun H3 e3 => k.same hd ((e1.trans e2).trans e3)
      · obtain ⟨qi, gi⟩ : ∃ q, Rh06.get d i = some q := by
          cases gi : Rh06.get d i with
          | none => rw [gi] at c2; cases c2
          | some q => exact ⟨q, rfl⟩
        obtain ⟨qj, gj⟩ : ∃ q, Rh06.get d j = some q := by
          cases gj : Rh06.get d j with
          | none => rw [gi, gj] at c2; cases c2
          | some q => exact ⟨q, rfl⟩
        rw [gi, gj] at stp
        have li := p.laid i
        have lj := p.laid j
        rw [gi] at li
        rw [gj] at lj
        obtain ⟨a, va, ta⟩ := li
        obtain ⟨b', vb, tb⟩ := lj
        have p2 := p1.ex e2
        -- parts
        refine q_asgU (xs := [.int (a : Int), .int (b' : Int)]) (eu_tup (ea_cons (ev_dget (k := Sum.inl (i : Int)) (ev_fld (ev_var rfl) p2.at_ TN.cl TN.nl NF_laid) (ev_var rfl) p2.lat va) (ea_cons (ev_dget (k := Sum.inl (j : Int)) (ev_fld (ev_var rfl) p2.at_ TN.cl TN.nl NF_laid) (ev_var rfl) p2.lat vb) ea_nil)) (by show 2 ≤ 100000; decide)) fun pp H3 npp e3 hpp => ?_
        have p3 := p2.ex e3
        have al : a < ts.length := (List.getElem?_eq_some_iff.mp ta).1
        have bl : b' < ts.length := (List.getElem?_eq_some_iff.mp tb).1
        obtain ⟨xa, hxa⟩ : ∃ x, vs[a]? = some x := ⟨_, List.getElem?_eq_getElem (by rw [p.qln]; exact al)⟩
        obtain ⟨xb, hxb⟩ : ∃ x, vs[b']? = some x := ⟨_, List.getElem?_eq_getElem (by rw [p.qln]; exact bl)⟩
        obtain ⟨oa, dxa, _, _, _, rfl, hoa⟩ := (p3.qis a xa qi hxa ta).size
        obtain ⟨ob, dxb, _, _, _, rfl, hob⟩ := (p3.qis b' xb qj hxb tb).size
        -- size
        refine q_asg (v := .int ((Rh06.size qi + Rh06.size qj : Nat) : Int)) (ev_is (ev_op
            (ev_fld (ev_op (ev_fld (ev_var rfl) p3.at_ TN.cl TN.nq NF_questions) (ev_op (ev_var rfl) ev_c (rv_ixT (st_of hpp) (atI_nat (j := 0) rfl))) (rv_ixL (sq_of p3.qat) (atI_nat hxa))) hoa TQ.cl TQ.ns QF_size)
            (ev_fld (ev_op (ev_fld (ev_var rfl) p3.at_ TN.cl TN.nq NF_questions) (ev_op (ev_var rfl) ev_c (rv_ixT (st_of hpp) (atI_nat (j := 1) rfl))) (rv_ixL (sq_of p3.qat) (atI_nat hxb))) hob TQ.cl TQ.ns QF_size) rv_I0) (by simp)) fun H4 e4 => ?_
        have p4 := p3.ex e4
        have e14 : Ex H H4 := ((e1.trans e2).trans e3).trans e4
        refine q_when (b := decide (64 < Rh06.size qi + Rh06.size qj)) (et_test (ev_is (ev_op (ev_var rfl) ev_c rv_I0) (by congr 1; rw [decide_eq_decide]; omega))) (fun c3 H5 e5 => ?_) (fun c3 H5 e5 => ?_)
        · have st1 : Rh06.step d (.join (kk - 4) s i j) = (d, [-5]) := by
            rw [stp]
            exact if_pos (by simpa using c3)
          rw [st1] at k
          exact s_ret (v := .int (-5)) ev_c fun H6 e6 => k.same hd ((e14.trans e5).trans e6)
        · have st1 : Rh06.step d (.join (kk - 4) s i j) = Rh06.laid d s (Rh06.joined (kk - 4) qi qj) := by
            rw [stp]
            exact if_neg (by simpa using c3)
          rw [st1] at k
          have p5 := p4.ex e5
          refine ⟨_, rfl, st, dx, _, rfl, p5.at_, NF_no (by decide +kernel) (by decide +kernel) (by decide +kernel) (by decide +kernel), _, rfl, _, rfl, _, rfl, _, rfl, ?_⟩
          refine fun x xd nx nd ne => q_made nx nd fun H6 e6 hx => ?_
          have e16 : Ex H H6 := (e14.trans e5).trans e6
          exact ⟨st, _, d, ts, s, .ref x, Rh06.joined (kk - 4) qi qj, rfl, hd.ex e16, by omega, .join hx (((e4.trans e5).trans e6) _ _ hpp) k4 k12 al bl ta tb, fun H' own' h1 h2 => k H' own' _ _ rfl h1 (by rw [List.length_append]; exact Nat.le_refl _) (h2.ex e16)⟩
end
end Nr

set_option Elab.async false
set_option linter.all false
set_option maxRecDepth 100000
set_option maxHeartbeats 2000000
namespace Nr
open PySem PySem.Spec PyProof.Rows L2 Evl
open Rh06 (Stretch)
/-- within (13) or first (14), as a call -/
def bcall (k s i n : Nat) : Rh06.Call := if k = 13 then .within s i n else .first s i n
theorem step_bcall (d : Rh06.St) (k s i n : Nat) : Rh06.step d (bcall k s i n) = if Rh06.isSlot s = false ∨ 60 < n then (d, [-1]) else (match Rh06.get d i with
    | some p => Rh06.laid d s (Ns.bd k p n)
    | none => (d, [-2])) := by
  unfold bcall Ns.bd
  by_cases c : k = 13
  · simp only [if_pos c]
    rfl
  · simp only [if_neg c]
    rfl
def spLayBounded (CN CQ : Addr) : Sp := fun vs H Q _ => ∃ (st : Addr) (own : List Addr) (d : Rh06.St) (ts : List Rh06.Q) (k s i n : Nat), vs = [.ref st, .int (k : Int), .int (s : Int), .int (i : Int), .int (n : Int)] ∧ (k = 13 ∨ k = 14) ∧ DeskAt CN CQ H st own d ts ∧ ts.length ≤ 500 ∧ After CN CQ st own ts H (Rh06.step d (bcall k s i n)) Q
section
variable {P : Program} {w : World} {K : PySem.W.Frag} {mg : Str → Option Value} {base : Heap} {CN CQ : Addr}
theorem m_layBounded {f : Addr} {fd : FuncData} (TN : ClsN K CN) (TQ : ClsQ K CQ) (me : Meth K CN "lay_bounded" f) (F : C8.Fun K "lay_bounded" "Nearness.lay_bounded" sLayBounded f fd) (b : Binds K fd ["self", "kind", "number", "part", "bound"] [])
    (LY : C8.Met P w K mg base 8 CN "lay" (spLay CN CQ) []) (QM : C8.Mak P w K mg base 1 "Question" CQ (spQInit CQ) []) (IQ : C8.Cal P w K mg base 1 "is_question" spIsQuestion []) (n2 : Num mg "OUT_OF_BOUNDS" (-1)) (n3 : Num mg "NOT_LAID" (-2)) (n4 : Num mg "HIGHEST_BOUND" 60) : C8.Met P w K mg base 9 CN "lay_bounded" (spLayBounded CN CQ) [] := by
  have sc : FnScope ["self", "kind", "number", "part", "bound", "when"] ["self", "kind", "number", "part", "bound"] (C8.fnScope sLayBounded) := C8.fnScope_by (by decide +kernel)
  refine C8.met0 TN.cl me F b sc (fun vs H Q E h => ?_) (fun cdv A outer s H vs Q E hr h => ⟨_,
    pss_cons (ps_if (PW.pt (pw_or (pt_not (pt_val (C8.pe_c IQ hr (by decide) rfl (pa_cons (pv 2) pa_nil)))) (pw_or1 (pt_cmpR op_gt (pv 4) (C8.pe_gc rfl n4) (nomark _))))) (pss_one (ps_ret (C8.pe_gc rfl n2))) pss_nil)
    (pss_cons (ps_if (pt_cmp (pc_dnotin (hu_of hr) (pv 3) (pe_fld (pv 0) rfl))) (pss_one (ps_ret (C8.pe_gc rfl n3))) pss_nil)
    (pss_cons (ps_set (i := 5) sc.nd rfl (Or.inl rfl) (pe_dget (hu_of hr) (pe_fld (pv 0) rfl) (pv 3) (fun _ _ => rfl)))
    (pss_one (ps_ret (C8.pe_mt LY hr (by decide) (pv 0) (pa_cons (pv 2) (pa_cons (C8.pe_mk QM hr (by decide) rfl (pa_cons (pv 1) (pa_cons (pe_tup (pa_cons (pv 5) pa_nil)) (pa_cons (pv 4) (pa_cons (pe_fld (pe_ix ix_list (pe_fld (pv 0) rfl) (pv 5) (fun _ _ => rfl)) rfl) pa_nil))))) pa_nil))))))), ?_⟩)
  · obtain ⟨st, own, d, ts, k, s, i, n, rfl, _⟩ := h
    rfl
  · obtain ⟨st, own, d, ts, kk, s, i, n, rfl, hk, hd, htn, k⟩ := h
    obtain ⟨dx, pw, pq, ps, pl, vs, rs, kvs, rfl, p⟩ := id hd
    have stp := step_bcall d kk s i n
    refine q_when (b := !(Rh06.isSlot s) || decide (60 < n)) (et_or (et_not (et_B (ev_call (ea_cons (ev_var rfl) ea_nil) fun H2 e2 Q k E => ⟨s, rfl, k⟩))) fun _ => et_test (ev_is (ev_op (ev_var rfl) ev_c rv_I0) (by congr 1; rw [decide_eq_decide]; omega))) (fun c H1 e1 => ?_) (fun c H1 e1 => ?_)
    · rw [if_pos (by simpa using c)] at stp
      rw [stp] at k
      exact s_ret (v := .int (-1)) ev_c fun H2 e2 => k.same hd (e1.trans e2)
    · rw [if_neg (by simp only [Bool.or_eq_false_iff, Bool.not_eq_false', decide_eq_false_iff_not] at c; rw [c.1]; simp; omega)] at stp
      have p1 := p.ex e1
      refine q_when (b := !(Rh06.get d i).isSome) (et_B (ev_dnotin (ev_var rfl) (ev_fld (ev_var rfl) p1.at_ TN.cl TN.nl NF_laid) p1.lat (laid_some p.laid i))) (fun c2 H2 e2 => ?_) (fun c2 H2 e2 => ?_)
      · cases gi : Rh06.get d i with
        | some qi => rw [gi] at c2; cases c2
        | none =>
          rw [gi] at stp
          rw [stp] at k
          exact s_ret (v := .int (-2)) ev_c fun H3 e3 => k.same hd ((e1.trans e2).trans e3)
      · cases gi : Rh06.get d i with
        | none => rw [gi] at c2; cases c2
        | some qi =>
          rw [gi] at stp
          rw [stp] at k
          have li := p.laid i
          rw [gi] at li
          obtain ⟨a, va, ta⟩ := li
          have p2 := p1.ex e2
          refine q_asg (v := .int (a : Int)) (ev_dget (k := Sum.inl (i : Int)) (ev_fld (ev_var rfl) p2.at_ TN.cl TN.nl NF_laid) (ev_var rfl) p2.lat va) fun H3 e3 => ?_
          have p3 := p2.ex e3
          have e13 : Ex H H3 := (e1.trans e2).trans e3
          have al : a < ts.length := (List.getElem?_eq_some_iff.mp ta).1
          obtain ⟨xa, hxa⟩ : ∃ x, vs[a]? = some x := ⟨_, List.getElem?_eq_getElem (by rw [p.qln]; exact al)⟩
          refine ⟨_, rfl, st, dx, _, rfl, p3.at_, NF_no (by decide +kernel) (by decide +kernel) (by decide +kernel) (by decide +kernel), _, rfl, _, rfl, _, rfl, (by show 1 ≤ sizeLine; decide), fun pt npt => ⟨_, rfl, ?_⟩⟩
          have p4 := p3.ex (Ex.new (o := .tup [.int (a : Int)]) npt)
          obtain ⟨oa, dxa, _, _, _, rfl, hoa⟩ := (p4.qis a xa qi hxa ta).size
          refine (ev_fld (ev_op (ev_fld (ev_var rfl) p4.at_ TN.cl TN.nq NF_questions) (ev_var rfl) (rv_ixL (K := K) (sq_of p4.qat) (atI_nat hxa))) hoa TQ.cl TQ.ns QF_size) _ (Ex.refl _) _ fun H5 e5 => ?_
          refine fun x xd nx nd ne => q_made nx nd fun H6 e6 hx => ?_
          have e16 : Ex H H6 := ((e13.trans (Ex.new npt)).trans e5).trans e6
          exact ⟨st, _, d, ts, s, .ref x, Ns.bd kk qi n, rfl, hd.ex e16, by omega, .bound hx ((e5.trans e6) _ _ upd_same) hk al ta, fun H' own' h1 h2 => k H' own' _ _ rfl h1 (by rw [List.length_append]; exact Nat.le_refl _) (h2.ex e16)⟩
end
end Nr

set_option Elab.async false
set_option linter.all false
set_option maxRecDepth 100000
set_option maxHeartbeats 2000000
namespace Nr
open PySem PySem.Spec PyProof.Rows L2 Evl
open Rh06 (Stretch)
open Ns (Job)
/-! ### pairs of when a part was laid and its stretch -/
def IsJob (H : Hp) (v : V) (b : Job) : Prop := ∃ t y, v = .ref t ∧ H t = some (.tup [.int (b.1 : Int), y]) ∧ IsSt H y b.2
def Jobs (H : Hp) : List V → List Job → Prop := Paired (IsJob H)
theorem IsJob.ex {H H' : Hp} {v : V} {b : Job} (e : Ex H H') : IsJob H v b → IsJob H' v b := fun ⟨t, y, a, c, d⟩ => ⟨t, y, a, e _ _ c, d.ex e⟩
theorem Jobs.ex {H H' : Hp} (e : Ex H H') : ∀ {xs : List V} {l : List Job}, Jobs H xs l → Jobs H' xs l
  | _, _, .nil => .nil
  | _, _, .cons a t => .cons (a.ex e) (Jobs.ex e t)
/-- what is no tuple is changed -/
theorem IsJob.put {H : Hp} {v : V} {b : Job} {p : Addr} {o : HO} (n : ∀ xs, H p ≠ some (.tup xs)) : IsJob H v b → IsJob (L2.upd H p o) v b := fun ⟨t, y, a, c, u, e, f⟩ =>
  ⟨t, y, a, by rw [upd_ne (fun z => n _ (z ▸ c))]; exact c, u, e, by rw [upd_ne (fun z => n _ (z ▸ f))]; exact f⟩
theorem Jobs.put {H : Hp} {p : Addr} {o : HO} (n : ∀ xs, H p ≠ some (.tup xs)) : ∀ {xs : List V} {l : List Job}, Jobs H xs l → Jobs (L2.upd H p o) xs l
  | _, _, .nil => .nil
  | _, _, .cons a t => .cons (a.put n) (Jobs.put n t)
theorem Jobs.len {H : Hp} : ∀ {xs : List V} {l : List Job}, Jobs H xs l → xs.length = l.length
  | _, _, .nil => rfl
  | _, _, .cons a t => congrArg (· + 1) (Jobs.len t)
theorem Jobs.app {H : Hp} : ∀ {xs ys : List V} {l r : List Job}, Jobs H xs l → Jobs H ys r → Jobs H (xs ++ ys) (l ++ r)
  | _, _, _, _, .nil, s => s
  | _, _, _, _, .cons a t, s => .cons a (Jobs.app t s)
theorem Jobs.last {H : Hp} : ∀ {xs : List V} {l : List Job} {b : Job}, Jobs H xs (l ++ [b]) → ∃ ks z, xs = ks ++ [z] ∧ Jobs H ks l ∧ IsJob H z b
  | _, [], b, .cons a .nil => ⟨[], _, rfl, .nil, a⟩
  | _, s :: l, b, .cons a t => by
    obtain ⟨ks, z, e, h, k⟩ := Jobs.last (l := l) t
    exact ⟨_ :: ks, z, by rw [e]; rfl, .cons a h, k⟩
/-- a new list of these is given back -/
def RetJ (U : List Job) (H : Hp) (Q : VK) : Prop := ∀ p xs H2, H p = none → Ex H H2 → H2 p = some (.lst xs) → Jobs H2 xs U → Q (.ref p) H2
def EvJ (te : TE) (σ : L2.St) (H : Hp) (U : List Job) : Prop := ∀ H1, Ex H H1 → ∀ Q : VK, RetJ U H1 Q → te σ H1 Q
/-- a share that may be None -/
def IsOpt (H : Hp) (v : V) (b : Nat × Option Stretch) : Prop := ∃ t y, v = .ref t ∧ H t = some (.tup [.int (b.1 : Int), y]) ∧ OptV H b.2 y
theorem IsOpt.ex {H H' : Hp} {v : V} {b : Nat × Option Stretch} (e : Ex H H') : IsOpt H v b → IsOpt H' v b := fun ⟨t, y, a, c, d⟩ => ⟨t, y, a, e _ _ c, d.ex e⟩
def Opts (H : Hp) : List V → List (Nat × Option Stretch) → Prop := Paired (IsOpt H)
theorem Opts.ex {H H' : Hp} (e : Ex H H') : ∀ {xs : List V} {l : List (Nat × Option Stretch)}, Opts H xs l → Opts H' xs l
  | _, _, .nil => .nil
  | _, _, .cons a t => .cons (a.ex e) (Opts.ex e t)
theorem Opts.len {H : Hp} : ∀ {xs : List V} {l : List (Nat × Option Stretch)}, Opts H xs l → xs.length = l.length
  | _, _, .nil => rfl
  | _, _, .cons a t => congrArg (· + 1) (Opts.len t)
theorem Opts.get {H : Hp} : ∀ {xs : List V} {l : List (Nat × Option Stretch)} {i : Nat} {b : Nat × Option Stretch}, Opts H xs l → l[i]? = some b → ∃ x, xs[i]? = some x ∧ IsOpt H x b
  | _, _, i, x, .nil, h => by simp at h
  | _, _, 0, x, .cons a t, h => by
    have e := Option.some.inj h
    subst e
    exact ⟨_, rfl, a⟩
  | _, _, i + 1, x, .cons a t, h => Opts.get (i := i) t h
def shares (os : List (Nat × Option Stretch)) : List Job := os.flatMap fun b => Ns.share b.1 b.2
theorem opts_given {H : Hp} {xs : List V} {os : List (Nat × Option Stretch)} (h : Opts H xs os) : ∀ n, n ≤ os.length → Jobs H (given n (fun i => (os.getD i (0, none)).2.isSome) (fun i => xs.getD i .non)) (shares (os.take n))
  | 0, _ => .nil
  | n + 1, hn => by
    have ih := opts_given h n (Nat.le_of_succ_le hn)
    obtain ⟨b, hb⟩ : ∃ b, os[n]? = some b := ⟨_, List.getElem?_eq_getElem (by omega)⟩
    obtain ⟨x, hx, t, y, e, ht, hy⟩ := h.get hb
    have e1 : os.getD n (0, none) = b := by rw [List.getD_eq_getElem?_getD, hb]; rfl
    have e2 : xs.getD n .non = x := by rw [List.getD_eq_getElem?_getD, hx]; rfl
    have e3 : shares (os.take (n + 1)) = shares (os.take n) ++ Ns.share b.1 b.2 := by
      unfold shares
      rw [List.take_add_one, hb, List.flatMap_append]
      simp
    rw [e3]
    obtain ⟨i, o⟩ := b
    cases o with
    | none =>
      rw [given_no (by rw [e1]; rfl)]
      show Jobs H _ (_ ++ [])
      rw [List.append_nil]
      exact ih
    | some s =>
      rw [given_yes (by rw [e1]; rfl), e2]
      exact ih.app (.cons ⟨t, y, e, ht, hy⟩ .nil)
/-- what evaluates to a value of which P holds -/
def EvP (te : TE) (σ : L2.St) (H : Hp) (R : Hp → V → Prop) : Prop := ∀ H1, Ex H H1 → ∀ Q : VK, (∀ v H2, Ex H1 H2 → R H2 v → Q v H2) → te σ H1 Q
section
variable {K : PySem.W.Frag} {σ : L2.St} {H H' : Hp} {ta tb te : TE} {x y v : V} {D : Ends} {tz : TS}
theorem ev_lenT {p : Addr} {xs : List V} (ha : Ev ta σ H (.ref p)) (h : SqT K H p xs) : Ev (tCB (rLenS K) (tCons ta tNil)) σ H (.int (xs.length : Int)) := fun H1 e Q q =>
  ha H1 e _ fun H2 e2 => ⟨p, xs, rfl, Or.inr (ex_t (e.trans e2) h), q H2 e2⟩
/-- x = [(a, b)] -/
theorem q_onePair {i : Nat} {o : Option Stretch} (h1 : Ev ta σ H x) (h2 : EvP tb σ H fun H v => OptV H o v) (k : ∀ p t y H1, H p = none → Ex H H1 → H1 p = some (.lst [.ref t]) → H1 t = some (.tup [x, y]) → OptV H1 o y → tz D (σ.set i (some (.ref p))) H1) :
    tSeq (tAsg (tLst (tCons (tTup (tCons ta (tCons tb tNil))) tNil)) (gName i)) tz D σ H :=
  h1 H (Ex.refl H) _ fun H1 e1 => h2 H1 e1 _ fun y H2 e2 hy => ⟨(by show 2 ≤ sizeLine; decide), fun t nt => ⟨(by show 1 ≤ sizeLine; decide), fun p np => by
    have e3 : Ex H2 (upd H2 t (.tup [x, y])) := Ex.new nt
    have e4 := e3.trans (Ex.new (o := .lst [.ref t]) np)
    refine k p t y _ (fresh_back ((e1.trans e2).trans e3) np) ((e1.trans e2).trans e4) upd_same ?_ (hy.ex e4)
    rw [upd_ne (fun z => by rw [← z, upd_same] at np; cases np)]
    exact upd_same⟩⟩
/-- xs.append((a, b)) -/
theorem s_appPair {l : Addr} {xs : List V} {o : Option Stretch} (hl : H l = some (.lst xs)) (ha : Ev te σ H (.ref l)) (h1 : Ev ta σ H x) (h2 : EvP tb σ H fun H v => OptV H o v) (hz : xs.length < 100000)
    (k : ∀ t y H1, Ex H H1 → H1 t = some (.tup [x, y]) → OptV H1 o y → D.nx σ (upd H1 l (.lst (xs ++ [.ref t])))) :
    tDrop (tBM K "list" rAppend te (tCons (tTup (tCons ta (tCons tb tNil))) tNil)) D σ H :=
  ha H (Ex.refl H) _ fun H1 e1 => ⟨Or.inl ⟨rfl, xs, sq_of (e1 l _ hl)⟩, h1 H1 e1 _ fun H2 e2 => h2 H2 (e1.trans e2) _ fun y H3 e3 hy => ⟨(by show 2 ≤ sizeLine; decide), fun t nt => by
    have e4 : Ex H3 (upd H3 t (.tup [x, y])) := Ex.new nt
    have e5 := ((e1.trans e2).trans e3).trans e4
    exact ⟨l, xs, .ref t, rfl, rfl, e5 l _ hl, sz_lt hz, k t y _ e5 upd_same (hy.ex e4)⟩⟩⟩
/-- xs.extend(a new list) -/
theorem s_extJ {l : Addr} {xs : List V} {U : List Job} (hl : H l = some (.lst xs)) (ha : Ev ta σ H (.ref l)) (h : EvJ te σ H U) (hz : xs.length + U.length ≤ 100000) (k : ∀ zs H1, Ex H H1 → Jobs H1 zs U → D.nx σ (upd H1 l (.lst (xs ++ zs)))) :
    tDrop (tBM K "list" rExtend ta (tCons te tNil)) D σ H :=
  ha H (Ex.refl H) _ fun H1 e1 => ⟨Or.inl ⟨rfl, xs, sq_of (e1 l _ hl)⟩, h H1 e1 _ fun p zs H2 np e2 hp j => ⟨l, p, xs, zs, rfl, rfl, (e1.trans e2) l _ hl, hp, sz_of (by rw [j.len]; exact hz), k zs H2 (e1.trans e2) j⟩⟩
theorem ej_meth {C a dx : Addr} {m : Str} {sp : Sp} {dvs vs : List V} {E : XK} {t : TA} {fs : List (Str × V)} {U : List Job} (ho : Ev ta σ H (.ref a)) (ha : H a = some (.ins C dx fs)) (hm : fs.lookup m = none) (h : EvA t σ H vs) (hs : ∀ H1, Ex H H1 → ∀ Q : VK, RetJ U H1 Q → ∀ E : XK, sp (.ref a :: (vs ++ dvs)) H1 Q E) : EvJ (tMeth C m sp dvs E ta t) σ H U := fun H1 e Q q =>
  ho H1 e _ fun H2 e2 => ⟨a, dx, fs, rfl, (e.trans e2) _ _ ha, hm, h H2 (e.trans e2) _ fun H3 e3 => hs H3 ((e.trans e2).trans e3) Q (fun p xs H4 hp e4 h4 k => q p xs H4 (fresh_back (e2.trans e3) hp) ((e2.trans e3).trans e4) h4 k) E⟩
end
/-- makers: what waits in its place, with what the walk over what waits wants of it -/
def spMakers (K : PySem.W.Frag) (C : Addr) : Sp := fun vs H Q _ => ∃ (v x : V) (ae : Addr) (s : Stretch) (t : List Nat) (ts : List Rh06.Q) (i : Nat) (q : Rh06.Q) (rs : List V), vs = [v, x, .ref ae] ∧ QIs H C ts i v q ∧ (∀ w, q ≠ .word w) ∧ ts[i]? = some q ∧ IsSt H x s ∧ SqL K H ae rs ∧ Rows H t ts i rs ∧
  ∀ U, U.length ≤ 2 → Ns.jobsNodes ts U < Ns.nodes q → (∀ i0 L W M, Ns.Walk t ts i0 L (W ++ [(i, s)]) M → Ns.Walk t ts i0 L (W ++ U) M) → RetJ U H Q
section
variable {P : Program} {w : World} {K : PySem.W.Frag} {mg : Str → Option Value} {base : Heap} {C : Addr}
theorem ep_left {σ : L2.St} {H : Hp} {t : TA} {E : XK} {k : Nat} {x : V} {s : Stretch} {a : Addr} {l : List Stretch} (h : EvA t σ H [.int (k : Int), x, .ref a]) (hx : IsSt H x s) (hl : LAt K H a l) : EvP (tCall (spLeft K) [] E t) σ H fun H v => OptV H (Ns.leftM k s l) v := fun H1 e Q q =>
  h H1 e _ fun H2 e2 => ⟨k, x, s, a, l, rfl, hx.ex (e.trans e2), hl.ex (e.trans e2), fun v H3 e3 o => q v H3 (e2.trans e3) o⟩
theorem ep_right {σ : L2.St} {H : Hp} {t : TA} {E : XK} {k : Nat} {x : V} {s : Stretch} {a b : Addr} {l r : List Stretch} (h : EvA t σ H [.int (k : Int), x, .ref a, .ref b]) (hx : IsSt H x s) (hl : LAt K H a l) (hr : LAt K H b r) : EvP (tCall (spRight K) [] E t) σ H fun H v => OptV H (Ns.rightM k s l r) v := fun H1 e Q q =>
  h H1 e _ fun H2 e2 => ⟨k, x, s, a, b, l, r, rfl, hx.ex (e.trans e2), hl.ex (e.trans e2), hr.ex (e.trans e2), fun v H3 e3 o => q v H3 (e2.trans e3) o⟩
theorem joined_ne (k : Nat) (p q : Rh06.Q) (w : Nat) : Rh06.joined k p q ≠ .word w := by
  unfold Rh06.joined
  split <;> intro h <;> cases h
theorem m_makers {f : Addr} {fd : FuncData} (T : ClsQ K C) (me : Meth K C "makers" f) (F : C8.Fun K "makers" "Question.makers" sMakers f fd) (b : Binds K fd ["self", "stretch", "earlier"] [])
    (LM : C8.Cal P w K mg base 3 "left_maker" (spLeft K) []) (RM : C8.Cal P w K mg base 3 "right_maker" (spRight K) []) (ml : mg "len" = none) : C8.Met P w K mg base 4 C "makers" (spMakers K C) [] := by
  have sc : FnScope ["self", "stretch", "earlier", "left", "pairs", "right", "pair"] ["self", "stretch", "earlier"] (C8.fnScope sMakers) := C8.fnScope_by (by decide +kernel)
  refine C8.met0 T.cl me F b sc (fun vs H Q E h => ?_) (fun cdv A outer s H vs Q E hr h => ⟨_,
    pss_cons (ps_set (i := 3) sc.nd rfl (Or.inl rfl) (pe_ix ix_list (pv 2) (pe_ix ix_tup (pe_fld (pv 0) rfl) pe_int (fun _ _ => rfl)) (fun _ _ => rfl)))
    (pss_cons (ps_set (i := 4) sc.nd rfl (Or.inl rfl) (pe_lst (pa_cons (pe_tup (pa_cons (pe_ix ix_tup (pe_fld (pv 0) rfl) pe_int (fun _ _ => rfl)) (pa_cons (C8.pe_c LM hr (by decide) rfl (pa_cons (pe_fld (pv 0) rfl) (pa_cons (pv 1) (pa_cons (pv 3) pa_nil)))) pa_nil))) pa_nil)))
    (pss_cons (ps_if (pt_cmpR op_eq (pe_callB call_len_seq rfl ml PySem.boot_len (pa_cons (pe_fld (pv 0) rfl) pa_nil)) pe_int (nomark _))
      (pss_cons (ps_set (i := 5) sc.nd rfl (Or.inl rfl) (pe_ix ix_list (pv 2) (pe_ix ix_tup (pe_fld (pv 0) rfl) pe_int (fun _ _ => rfl)) (fun _ _ => rfl)))
      (pss_one (ps_expr (pe_bm PySem.F.plainAttrs_list PySem.F.slot_list_append PySem.F.type_list_append mt_append (pv 4) (pa_cons (pe_tup (pa_cons (pe_ix ix_tup (pe_fld (pv 0) rfl) pe_int (fun _ _ => rfl)) (pa_cons (C8.pe_c RM hr (by decide) rfl (pa_cons (pe_fld (pv 0) rfl) (pa_cons (pv 1) (pa_cons (pv 3) (pa_cons (pv 5) pa_nil))))) pa_nil))) pa_nil))))) pss_nil)
    (pss_one (ps_ret (pe_lc (own := [("pair", 6)]) (g := gName 6) (tt := tB (tNotN (tOp (rIxT K) (tVar 6) (tC (.int 1))))) rfl sc.nd (pi_list (pv 4)) (blkOk_by (N := ["self", "stretch", "earlier", "left", "pairs", "right", "pair"]) (sc := C8.fnScope sMakers) (by decide +kernel))
        (fun _ _ _ _ _ => pg_name (i := 6) sc.nd rfl (Or.inl rfl)) (fun _ _ _ _ _ => pts_one (pt_cmp (pc_notN (pe_ix ix_tup (pv 6) pe_int (fun _ _ => rfl))))) (fun _ _ _ _ _ => pv 6)))))), ?_⟩)
  · obtain ⟨v, x, ae, s, t, ts, i, q, rs, rfl, _⟩ := h
    rfl
  · obtain ⟨v, x, ae, s, t, ts, i, q, rs, rfl, hq, nw, hts, hx, hae, hrows, k⟩ := h
    -- the last row
    have fin : ∀ {H3 : Hp} {v0 x3 x5 : Option V} {pp : Addr} {xs : List V} {os : List (Nat × Option Stretch)} {D : Ends}, D.rt = Q → Ex H H3 → H3 pp = some (.lst xs) → Opts H3 xs os → os.length ≤ 2 → (shares os).length ≤ 2 → Ns.jobsNodes ts (shares os) < Ns.nodes q → (∀ i0 L W M, Ns.Walk t ts i0 L (W ++ [(i, s)]) M → Ns.Walk t ts i0 L (W ++ shares os) M) →
        tRet (tLc (iList K (tVar 4)) (gName 6) (tB (tNotN (tOp (rIxT K) (tVar 6) (tC (.int 1))))) (tVar 6) [6]) D [v0, some x, some (.ref ae), x3, some (.ref pp), x5, none] H3 := fun {H3 v0 x3 x5 pp xs os D} eD e3 hp ho h2 hl hn hw => by
      refine s_retL (el_lcL (fun i => (os.getD i (0, none)).2.isSome) (fun i => xs.getD i .non) (ev_var rfl) (sq_of (K := K) hp) (by rw [ho.len]; omega) (fun _ => rfl) (fun j y H4 e4 hj => ?_) (fun j y H4 e4 hj _ => ?_)) fun pn H4 np e4 hpn => ?_
      · obtain ⟨bb, hb⟩ : ∃ b, os[j]? = some b := ⟨_, List.getElem?_eq_getElem (by rw [← ho.len]; exact (List.getElem?_eq_some_iff.mp hj).1)⟩
        obtain ⟨y', hy', tt, u, e, ht, hu⟩ := ho.get hb
        rw [hj] at hy'
        cases hy'
        subst e
        rw [List.getD_eq_getElem?_getD, hb]
        exact et_is (et_B (ev_notN (ev_op (ev_var rfl) ev_c (rv_ixT (st_of (e4 _ _ ht)) (atI_nat (j := 1) rfl))))) hu.non
      · rw [List.getD_eq_getElem?_getD, hj]
        exact ev_var rfl
      · have jo := opts_given ho os.length (Nat.le_refl _)
        rw [List.take_length, ← ho.len] at jo
        rw [eD]
        exact k _ hl hn hw pn _ H4 (fresh_back e3 np) (e3.trans e4) hpn (jo.ex e4)
    cases hq with
    | word hq => exact absurd rfl (nw _)
    | join hq hp k4 k12 ha hb ta tb =>
      rename_i q0 dx pp kk a b qa qb
      obtain ⟨ra, ga, la⟩ := hrows a qa ha ta
      obtain ⟨rb, gb, lb⟩ := hrows b qb hb tb
      refine q_asg (v := .ref ra) (ev_op (ev_var rfl) (ev_op (ev_fld (ev_var rfl) hq T.cl T.np QF_parts) ev_c (rv_ixT (st_of hp) (atI_nat (j := 0) rfl))) (rv_ixL hae (atI_nat ga))) fun H1 e1 => ?_
      refine q_onePair (x := .int (a : Int)) (o := Ns.leftM kk s (Rh06.row t qa)) (ev_op (ev_fld (ev_var rfl) (e1 _ _ hq) T.cl T.np QF_parts) ev_c (rv_ixT (st_of (e1 _ _ hp)) (atI_nat (j := 0) rfl)))
        (ep_left (ea_cons (ev_fld (ev_var rfl) (e1 _ _ hq) T.cl T.nk QF_kind) (ea_cons (ev_var rfl) (ea_cons (ev_var rfl) ea_nil))) (hx.ex e1) (la.ex e1).at) fun pr t1 y1 H2 npr e2 hpr ht1 ho1 => ?_
      have e12 := e1.trans e2
      have nprH : H pr = none := fresh_back e1 npr
      refine q_when (b := true) (et_is (et_eqN (k := 2) (ev_is (ev_lenT (K := K) (ev_fld (ev_var rfl) (e12 _ _ hq) T.cl T.np QF_parts) (st_of (e12 _ _ hp))) rfl)) rfl) (fun _ H3 e3 => ?_) (fun h => nomatch h)
      have e13 := e12.trans e3
      refine q_asg (v := .ref rb) (ev_op (ev_var rfl) (ev_op (ev_fld (ev_var rfl) (e13 _ _ hq) T.cl T.np QF_parts) ev_c (rv_ixT (st_of (e13 _ _ hp)) (atI_nat (j := 1) rfl))) (rv_ixL (ex_l e13 hae) (atI_nat gb))) fun H4 e4 => ?_
      have e14 := e13.trans e4
      refine s_appPair (x := .int (b : Int)) (o := Ns.rightM kk s (Rh06.row t qa) (Rh06.row t qb)) ((e3.trans e4) _ _ hpr) (ev_var rfl) (ev_op (ev_fld (ev_var rfl) (e14 _ _ hq) T.cl T.np QF_parts) ev_c (rv_ixT (st_of (e14 _ _ hp)) (atI_nat (j := 1) rfl)))
        (ep_right (ea_cons (ev_fld (ev_var rfl) (e14 _ _ hq) T.cl T.nk QF_kind) (ea_cons (ev_var rfl) (ea_cons (ev_var rfl) (ea_cons (ev_var rfl) ea_nil)))) (hx.ex e14) (la.ex e14).at (lb.ex e14).at) (by show 1 < 100000; decide) fun t2 y2 H5 e5 ht2 ho2 => ?_
      have e25 := (e3.trans e4).trans e5
      have prn : ∀ xs, H5 pr ≠ some (.tup xs) := fun xs z => by rw [e25 _ _ hpr] at z; cases z
      have o1 : IsOpt (upd H5 pr (.lst ([.ref t1] ++ [.ref t2]))) (.ref t1) (a, Ns.leftM kk s (Rh06.row t qa)) := by
        refine ⟨t1, y1, rfl, ?_, ?_⟩
        · rw [upd_ne (fun z => prn _ (z ▸ e25 _ _ ht1))]
          exact e25 _ _ ht1
        · have ho1' := ho1.ex e25
          show OptV _ (Ns.leftM kk s (Rh06.row t qa)) y1
          generalize Ns.leftM kk s (Rh06.row t qa) = o at ho1'
          cases o with
          | none => exact ho1'
          | some z => exact IsSt.upd ho1' (e25 _ _ hpr)
      have o2 : IsOpt (upd H5 pr (.lst ([.ref t1] ++ [.ref t2]))) (.ref t2) (b, Ns.rightM kk s (Rh06.row t qa) (Rh06.row t qb)) := by
        refine ⟨t2, y2, rfl, ?_, ?_⟩
        · rw [upd_ne (fun z => prn _ (z ▸ ht2))]
          exact ht2
        · show OptV _ (Ns.rightM kk s (Rh06.row t qa) (Rh06.row t qb)) y2
          generalize Ns.rightM kk s (Rh06.row t qa) (Rh06.row t qb) = o at ho2
          cases o with
          | none => exact ho2
          | some z => exact IsSt.upd ho2 (e25 _ _ hpr)
      have es : shares [(a, Ns.leftM kk s (Rh06.row t qa)), (b, Ns.rightM kk s (Rh06.row t qa) (Rh06.row t qb))] = Ns.share a (Ns.leftM kk s (Rh06.row t qa)) ++ Ns.share b (Ns.rightM kk s (Rh06.row t qa) (Rh06.row t qb)) := by
        unfold shares
        simp
      refine fin rfl (Ex.mut (e14.trans e5) nprH) upd_same (.cons o1 (.cons o2 .nil)) (Nat.le_refl 2) ?_ ?_ ?_
      · rw [es, List.length_append]
        have h1 := Ns.share_len a (Ns.leftM kk s (Rh06.row t qa))
        have h2 := Ns.share_len b (Ns.rightM kk s (Rh06.row t qa) (Rh06.row t qb))
        omega
      · rw [es, Ns.jobsNodes_app, Ns.nodes_join]
        have h1 := Ns.share_nodes ta (Ns.leftM kk s (Rh06.row t qa))
        have h2 := Ns.share_nodes tb (Ns.rightM kk s (Rh06.row t qa) (Rh06.row t qb))
        omega
      · intro i0 L W M hW
        rw [es]
        exact hW.join hts k4 k12 ha hb ta tb
    | bound hq hp hk ha ta =>
      rename_i q0 dx pp kk a n qa
      obtain ⟨ra, ga, la⟩ := hrows a qa ha ta
      refine q_asg (v := .ref ra) (ev_op (ev_var rfl) (ev_op (ev_fld (ev_var rfl) hq T.cl T.np QF_parts) ev_c (rv_ixT (st_of hp) (atI_nat (j := 0) rfl))) (rv_ixL hae (atI_nat ga))) fun H1 e1 => ?_
      have ls : Ns.leftM kk s (Rh06.row t qa) = some s := by
        unfold Ns.leftM
        rw [if_neg (by omega), if_neg (by omega), if_neg (by omega)]
      refine q_onePair (x := .int (a : Int)) (o := Ns.leftM kk s (Rh06.row t qa)) (ev_op (ev_fld (ev_var rfl) (e1 _ _ hq) T.cl T.np QF_parts) ev_c (rv_ixT (st_of (e1 _ _ hp)) (atI_nat (j := 0) rfl)))
        (ep_left (ea_cons (ev_fld (ev_var rfl) (e1 _ _ hq) T.cl T.nk QF_kind) (ea_cons (ev_var rfl) (ea_cons (ev_var rfl) ea_nil))) (hx.ex e1) (la.ex e1).at) fun pr t1 y1 H2 npr e2 hpr ht1 ho1 => ?_
      have e12 := e1.trans e2
      refine q_when (b := false) (et_is (et_eqN (k := 1) (ev_is (ev_lenT (K := K) (ev_fld (ev_var rfl) (e12 _ _ hq) T.cl T.np QF_parts) (st_of (e12 _ _ hp))) rfl)) rfl) (fun h => nomatch h) (fun _ H3 e3 => ?_)
      rw [ls] at ho1
      have es : shares [(a, some s)] = Ns.share a (some s) := by
        unfold shares
        simp
      refine fin (os := [(a, some s)]) rfl (e12.trans e3) (e3 _ _ hpr) (.cons ⟨t1, y1, rfl, e3 _ _ ht1, ho1.ex e3⟩ .nil) (by show 1 ≤ 2; decide) ?_ ?_ ?_
      · rw [es]
        have h1 := Ns.share_len a (some s)
        omega
      · rw [es, Ns.nodes_bd]
        have h1 := Ns.share_nodes ta (some s)
        omega
      · intro i0 L W M hW
        rw [es]
        exact hW.bound hts ha ta
end
end Nr

set_option Elab.async false
set_option linter.all false
set_option maxRecDepth 100000
set_option maxHeartbeats 2000000
namespace Nr
open PySem PySem.Spec PyProof.Rows L2 Evl
open Rh06 (Stretch)
open Ns (Job)
/-! ### the keys of a dict of places -/
def keysN (M : List Nat) : List Key := M.map fun (n : Nat) => Sum.inl (n : Int)
theorem keys_put {kvs : List (Key × V)} {M : List Nat} (h : kvs.map (·.1) = keysN M) (n : Nat) (v : V) : (putK kvs (Sum.inl (n : Int)) v).map (·.1) = keysN (Ns.putN M n) := by
  have hm : (kvs.any fun kv => decide (kv.1 = Sum.inl (n : Int))) = true ↔ n ∈ M := by
    rw [List.any_eq_true]
    constructor
    · rintro ⟨kv, m, e⟩
      have m2 : kv.1 ∈ kvs.map (·.1) := List.mem_map_of_mem m
      rw [h, of_decide_eq_true e] at m2
      obtain ⟨k, mk, ek⟩ := List.mem_map.mp m2
      have := Sum.inl.inj ek
      have e2 : k = n := by omega
      rw [← e2]
      exact mk
    · intro m
      have m2 : (Sum.inl (n : Int) : Key) ∈ kvs.map (·.1) := by
        rw [h]
        exact List.mem_map_of_mem (f := fun (n : Nat) => (Sum.inl (n : Int) : Key)) m
      obtain ⟨kv, mk, ek⟩ := List.mem_map.mp m2
      exact ⟨kv, mk, decide_eq_true ek⟩
  unfold putK Ns.putN
  by_cases c : n ∈ M
  · rw [if_pos (hm.mpr c), if_pos c, List.map_map, ← h]
    refine List.map_congr_left fun kv _ => ?_
    show (if kv.1 = Sum.inl (n : Int) then (kv.1, v) else kv).1 = kv.1
    split <;> rfl
  · rw [if_neg (fun z => c (hm.mp z)), if_neg c, List.map_append, h]
    unfold keysN
    rw [List.map_append]
    rfl
section
variable {K : PySem.W.Frag} {σ : L2.St} {H H' : Hp} {ta tb te : TE} {x y v : V} {D : Ends} {tz : TS}
/-- x = xs.pop() -/
theorem q_pop {l : Addr} {xs : List V} {i : Nat} (hl : H l = some (.lst (xs ++ [v]))) (ha : Ev ta σ H (.ref l)) (k : ∀ H1, Ex H H1 → tz D (σ.set i (some v)) (upd H1 l (.lst xs))) : tSeq (tAsg (tBM0 K "list" rPop ta) (gName i)) tz D σ H :=
  ha H (Ex.refl H) _ fun H1 e1 => ⟨Or.inl ⟨rfl, _, sq_of (e1 l _ hl)⟩, l, xs ++ [v], v, rfl, rfl, e1 l _ hl, by simp, by
    rw [List.dropLast_concat]
    exact k H1 e1⟩
/-- return f(..), f a built-in -/
theorem s_retB {r : List V → Hp → VK → Prop} {t : TA} {vs : List V} (h : EvA t σ H vs) (hs : ∀ H1, Ex H H1 → r vs H1 D.rt) : tRet (tCB r t) D σ H := h H (Ex.refl H) _ fun H1 e1 => hs H1 e1
theorem RetJ.back {U : List Job} {H H1 : Hp} {Q : VK} (h : RetJ U H Q) (e : Ex H H1) : RetJ U H1 Q := fun p xs H2 np e2 hp j => h p xs H2 (fresh_back e np) (e.trans e2) hp j
/-- xs.extend(o.m(..)), of whose list only R is known -/
theorem s_extR {l C a dx : Addr} {m : Str} {sp : Sp} {vs xs : List V} {E : XK} {t : TA} {fs : List (Str × V)} {R : List Job → Prop} (hl : H l = some (.lst xs)) (hx : Ev te σ H (.ref l)) (ho : Ev ta σ H (.ref a)) (ha : H a = some (.ins C dx fs)) (hm : fs.lookup m = none) (h : EvA t σ H vs)
    (hs : ∀ H1, Ex H H1 → ∀ Q : VK, (∀ U, R U → RetJ U H1 Q) → ∀ E : XK, sp (.ref a :: (vs ++ [])) H1 Q E) (hz : ∀ U, R U → xs.length + U.length ≤ 100000) (k : ∀ U zs H1, R U → Ex H H1 → Jobs H1 zs U → D.nx σ (upd H1 l (.lst (xs ++ zs)))) :
    tDrop (tBM K "list" rExtend te (tCons (tMeth C m sp [] E ta t) tNil)) D σ H :=
  hx H (Ex.refl H) _ fun H1 e1 => ⟨Or.inl ⟨rfl, xs, sq_of (e1 l _ hl)⟩, ho H1 e1 _ fun H2 e2 => ⟨a, dx, fs, rfl, (e1.trans e2) _ _ ha, hm, h H2 (e1.trans e2) _ fun H3 e3 => hs H3 ((e1.trans e2).trans e3) _ (fun U hU p zs H4 np e4 hp j => by
    have e14 := ((e1.trans e2).trans e3).trans e4
    exact ⟨l, p, xs, zs, rfl, rfl, e14 l _ hl, hp, sz_of (by rw [j.len]; exact hz U hU), k U zs H4 hU e14 j⟩) E⟩⟩
theorem s_dput {td ty tv : TE} {pl : Addr} {kvs : List (Key × V)} {kk : Key} (hv : Ev tv σ H v) (hd : Ev td σ H (.ref pl)) (hy : Ev ty σ H (kV kk)) (hl : H pl = some (.dK kvs)) (hz : kvs.length < 100000) (k : ∀ H1, Ex H H1 → D.nx σ (upd H1 pl (.dK (putK kvs kk v)))) : sDPut td ty tv D σ H :=
  hv H (Ex.refl H) _ fun H1 e1 => hd H1 e1 _ fun H2 e2 => hy H2 (e1.trans e2) _ fun H3 e3 => ⟨pl, _, rfl, DPut.k (((e1.trans e2).trans e3) _ _ hl) (sz_lt hz), k H3 ((e1.trans e2).trans e3)⟩
end
section
variable {P : Program} {w : World} {K : PySem.W.Frag} {mg : Str → Option Value} {base : Heap} {CN CQ : Addr}
theorem QIs.kind {H : Hp} {C : Addr} {ts : List Rh06.Q} {i : Nat} {v : V} {q : Rh06.Q} (h : QIs H C ts i v q) : ∃ (a dx : Addr) (kk : Nat) (pp nn sz : V), v = .ref a ∧ H a = some (.ins C dx (QF (.int (kk : Int)) pp nn sz)) ∧ ((kk = 3 ∧ ∃ w, q = .word w) ∨ (kk ≠ 3 ∧ ∀ w, q ≠ .word w)) := by
  cases h with
  | word h => exact ⟨_, _, 3, _, _, _, rfl, h, .inl ⟨rfl, _, rfl⟩⟩
  | join h h2 a b c d f g => exact ⟨_, _, _, _, _, _, rfl, h, .inr ⟨by omega, fun w => joined_ne _ _ _ w⟩⟩
  | bound h h2 a b c => exact ⟨_, _, _, _, _, _, rfl, h, .inr ⟨by omega, fun w => by unfold Ns.bd; split <;> intro z <;> cases z⟩⟩
/-! ### stretches_of -/
def spOf (CN CQ : Addr) : Sp := fun vs H Q _ => ∃ (st : Addr) (own : List Addr) (d : Rh06.St) (ts : List Rh06.Q) (s : Nat), vs = [.ref st, .int (s : Int)] ∧ DeskAt CN CQ H st own d ts ∧ (Rh06.get d s = none → RetV .non H Q) ∧ ∀ q, Rh06.get d s = some q → ∀ a, LT H a (Rh06.row d.text q) → RetV (.ref a) H Q
theorem m_of {f : Addr} {fd : FuncData} (TN : ClsN K CN) (me : Meth K CN "stretches_of" f) (F : C8.Fun K "stretches_of" "Nearness.stretches_of" sStretchesOf f fd) (b : Binds K fd ["self", "number"] []) : C8.Met P w K mg base 1 CN "stretches_of" (spOf CN CQ) [] := by
  have sc : FnScope ["self", "number"] ["self", "number"] (C8.fnScope sStretchesOf) := C8.fnScope_by (by decide +kernel)
  refine C8.met0 TN.cl me F b sc (fun vs H Q E h => ?_) (fun cdv A outer s H vs Q E hr h => ⟨_,
    pss_cons (ps_if (pt_cmp (pc_dnotin (hu_of hr) (pv 1) (pe_fld (pv 0) rfl))) (pss_one (ps_ret pe_non)) pss_nil)
    (pss_one (ps_ret (pe_ix ix_list (pe_fld (pv 0) rfl) (pe_dget (hu_of hr) (pe_fld (pv 0) rfl) (pv 1) (fun _ _ => rfl)) (fun _ _ => rfl)))), ?_⟩)
  · obtain ⟨st, own, d, ts, s, rfl, _⟩ := h
    rfl
  · obtain ⟨st, own, d, ts, s, rfl, hd, k0, k1⟩ := h
    obtain ⟨dx, pw, pq, ps, pl, vs, rs, kvs, rfl, p⟩ := id hd
    refine q_when (b := !(Rh06.get d s).isSome) (et_B (ev_dnotin (ev_var rfl) (ev_fld (ev_var rfl) p.at_ TN.cl TN.nl NF_laid) p.lat (laid_some p.laid s))) (fun c H1 e1 => ?_) (fun c H1 e1 => ?_)
    · have g : Rh06.get d s = none := by
        cases gi : Rh06.get d s with
        | none => rfl
        | some q => rw [gi] at c; cases c
      exact s_ret (v := .non) ev_c fun H2 e2 => k0 g H2 (e1.trans e2)
    · cases gi : Rh06.get d s with
      | none => rw [gi] at c; cases c
      | some q =>
        have li := p.laid s
        rw [gi] at li
        obtain ⟨a, va, ta⟩ := li
        obtain ⟨ra, ga, la⟩ := p.row a q (List.getElem?_eq_some_iff.mp ta).1 ta
        have p1 := p.ex e1
        exact s_ret (v := .ref ra) (ev_op (ev_fld (ev_var rfl) p1.at_ TN.cl TN.ns NF_stretches) (ev_dget (k := Sum.inl (s : Int)) (ev_fld (ev_var rfl) p1.at_ TN.cl TN.nl NF_laid) (ev_var rfl) p1.lat va) (rv_ixL (sq_of p1.rat) (atI_nat ga))) fun H2 e2 => k1 q gi ra la H2 (e1.trans e2)
/-! ### places_that_make -/
def spMake (CN CQ : Addr) : Sp := fun vs H Q _ => ∃ (st : Addr) (own : List Addr) (d : Rh06.St) (ts : List Rh06.Q) (s : Nat) (x : V) (y : Stretch) (q : Rh06.Q), vs = [.ref st, .int (s : Int), x] ∧ DeskAt CN CQ H st own d ts ∧ ts.length ≤ 500 ∧ Rh06.get d s = some q ∧ IsSt H x y ∧ y ∈ Rh06.row d.text q ∧
  ∀ p H2, H p = none → Ex H H2 → H2 p = some (.lst (nums (Rh06.shows d.text q y))) → Q (.ref p) H2
theorem m_make {f : Addr} {fd : FuncData} (TN : ClsN K CN) (TQ : ClsQ K CQ) (me : Meth K CN "places_that_make" f) (F : C8.Fun K "places_that_make" "Nearness.places_that_make" sPlacesMake f fd) (b : Binds K fd ["self", "number", "stretch"] [])
    (MK : C8.Met P w K mg base 4 CQ "makers" (spMakers K CQ) []) (ms : mg "sorted" = none) (nW : Num mg "WORD" 3) : C8.Met P w K mg base 5 CN "places_that_make" (spMake CN CQ) [] := by
  have sc : FnScope ["self", "number", "stretch", "made", "waiting", "pair", "question"] ["self", "number", "stretch"] (C8.fnScope sPlacesMake) := C8.fnScope_by (by decide +kernel)
  refine C8.met0 TN.cl me F b sc (fun vs H Q E h => ?_) (fun cdv A outer s H vs Q E hr h => ⟨_,
    pss_cons (ps_set (i := 3) sc.nd rfl (Or.inl rfl) pe_dnewK)
    (pss_cons (ps_set (i := 4) sc.nd rfl (Or.inl rfl) (pe_lst (pa_cons (pe_tup (pa_cons (pe_dget (hu_of hr) (pe_fld (pv 0) rfl) (pv 1) (fun _ _ => rfl)) (pa_cons (pv 2) pa_nil))) pa_nil)))
    (pss_cons (ps_while PassesOwn.never (pt_truth (pv 4) (fun _ => rfl))
      (pss_cons (ps_set (i := 5) sc.nd rfl (Or.inl rfl) (pe_bm0 PySem.F.plainAttrs_list PySem.F.slot_list_pop PySem.F.type_list_pop mt_pop (pv 4)))
      (pss_cons (ps_set (i := 6) sc.nd rfl (Or.inl rfl) (pe_ix ix_list (pe_fld (pv 0) rfl) (pe_ix ix_tup (pv 5) pe_int (fun _ _ => rfl)) (fun _ _ => rfl)))
      (pss_one (ps_if (pt_cmpR op_eq (pe_fld (pv 6) rfl) (C8.pe_gc rfl nW) (nomark _))
        (pss_one (ps_dput (hu_of hr) (pv 3) (pe_ix ix_tup (pe_ix ix_tup (pv 5) pe_int (fun _ _ => rfl)) pe_int (fun _ _ => rfl)) pe_bl rfl))
        (pss_one (ps_expr (pe_bm PySem.F.plainAttrs_list PySem.F.slot_list_extend PySem.F.type_list_extend mt_extend (pv 4) (pa_cons (C8.pe_mt MK hr (by decide) (pv 6) (pa_cons (pe_ix ix_tup (pv 5) pe_int (fun _ _ => rfl)) (pa_cons (pe_fld (pv 0) rfl) pa_nil))) pa_nil)))))))))
    (pss_one (ps_ret (pe_callB (call_sortedDI rfl) rfl ms PyProof.Rows.boot_sorted (pa_cons (pv 3) pa_nil)))))), ?_⟩)
  · obtain ⟨st, own, d, ts, s, x, y, q, rfl, _⟩ := h
    rfl
  · obtain ⟨st, own, d, ts, s, x, y, q, rfl, hd, htn, gq, hx, hy, k⟩ := h
    obtain ⟨dx, pw, pq, ps, pl, vs, rs, kvs, rfl, p⟩ := id hd
    have ls := p.laid s
    rw [gq] at ls
    obtain ⟨i0, va, ta⟩ := ls
    have il : i0 < ts.length := (List.getElem?_eq_some_iff.mp ta).1
    -- made = {}
    refine fun pm npm => ?_
    have e1 : Ex H (upd H pm (.dK [])) := Ex.new npm
    have p1 := p.ex e1
    -- waiting = [(self.laid[number], stretch)]
    refine q_onePair (x := .int (i0 : Int)) (o := some y) (ev_dget (k := Sum.inl (s : Int)) (ev_fld (ev_var rfl) p1.at_ TN.cl TN.nl NF_laid) (ev_var rfl) p1.lat va) (fun H1 e Q q => (ev_var rfl : Ev (tVar 2) _ (upd H pm (.dK [])) x) H1 e Q fun H2 e2 => q x H2 e2 (hx.ex ((e1.trans e).trans e2))) fun pt t0 y0 H2 npt e2 hpt ht0 hy0 => ?_
    have nptH : H pt = none := fresh_back e1 npt
    have e02 : Ex H H2 := e1.trans e2
    have w0 : Ns.Walk d.text ts i0 (Rh06.shows d.text q y) [(i0, y)] [] := Ns.Walk.start ta hy
    refine q_while (fun m σ' H' => ∃ v5 v6 ks kvs' M W, σ' = [some (.ref st), some (.int (s : Int)), some x, some (.ref pm), some (.ref pt), v5, v6] ∧ Ex H H' ∧ H' pm = some (.dK kvs') ∧ kvs'.map (·.1) = keysN M ∧ H' pt = some (.lst ks) ∧ Jobs H' ks W ∧ Ns.Walk d.text ts i0 (Rh06.shows d.text q y) W M ∧ m = Ns.jobsNodes ts W)
      (Ns.jobsNodes ts [(i0, y)]) ⟨none, none, [.ref t0], [], [], [(i0, y)], rfl, e02, e2 _ _ upd_same, rfl, hpt, .cons ⟨t0, y0, rfl, ht0, hy0⟩ .nil, w0, rfl⟩ ?_
    rintro m σ' H' ⟨v5, v6, ks, kvs', M, W, rfl, e, hm, hkeys, hw, jo, wk, rfl⟩
    have few : M.length ≤ 60 := by
      have h1 : M.length ≤ d.text.length := Ns.nodup_len wk.nd fun z mz => Ns.shows_in d.text q y hy z ((wk.all z).mpr (.inl mz))
      have := p.few
      omega
    refine ⟨!ks.isEmpty, et_truL (K := K) (ev_var rfl) (sq_of hw), fun hb H3 e3 => ?_, fun hb H3 e3 => ?_⟩
    · -- a turn
      refine ⟨fun σ2 H2 => ∃ v5 v6 ks kvs' M W', σ2 = [some (.ref st), some (.int (s : Int)), some x, some (.ref pm), some (.ref pt), v5, v6] ∧ Ex H H2 ∧ H2 pm = some (.dK kvs') ∧ kvs'.map (·.1) = keysN M ∧ H2 pt = some (.lst ks) ∧ Jobs H2 ks W' ∧ Ns.Walk d.text ts i0 (Rh06.shows d.text q y) W' M ∧ Ns.jobsNodes ts W' < Ns.jobsNodes ts W, ?_, ?_⟩
      · rintro σ2 H2 ⟨v5, v6, ks, kvs', M, W', h1, h2, h3, h4, h5, h6, h7, h8⟩
        exact ⟨_, h8, v5, v6, ks, kvs', M, W', h1, h2, h3, h4, h5, h6, h7, rfl⟩
      obtain ⟨W', ⟨i, z⟩, rfl⟩ : ∃ W' b, W = W' ++ [b] := by
        rcases List.eq_nil_or_concat W with z | ⟨W', b, z⟩
        · subst z
          cases jo
          cases hb
        · exact ⟨W', b, by rw [z, List.concat_eq_append]⟩
      obtain ⟨ks', jv, rfl, jo', jl⟩ := jo.last
      obtain ⟨tj, yj, rfl, htj, hyj⟩ := jl
      -- pair = waiting.pop()
      refine q_pop (xs := ks') (v := .ref tj) (e3 _ _ hw) (ev_var rfl) fun H4 e4 => ?_
      have e34 := e3.trans e4
      have e04 : Ex H H4 := e.trans e34
      have ptn : ∀ xs, H4 pt ≠ some (.tup xs) := fun xs zz => by rw [e34 _ _ hw] at zz; cases zz
      have e05 : Ex H (upd H4 pt (.lst ks')) := Ex.mut e04 nptH
      have htj5 : (upd H4 pt (.lst ks')) tj = some (.tup [.int (i : Int), yj]) := by
        rw [upd_ne (fun zz => ptn _ (zz ▸ e34 _ _ htj))]
        exact e34 _ _ htj
      have hyj5 : IsSt (upd H4 pt (.lst ks')) yj z := (hyj.ex e34).upd (e34 _ _ hw)
      have jo5 : Jobs (upd H4 pt (.lst ks')) ks' W' := (jo'.ex e34).put ptn
      have pmt : pm ≠ pt := fun zz => by rw [zz, hw] at hm; cases hm
      have hm5 : (upd H4 pt (.lst ks')) pm = some (.dK kvs') := by rw [upd_ne pmt]; exact e34 _ _ hm
      have hw5 : (upd H4 pt (.lst ks')) pt = some (.lst ks') := upd_same
      generalize upd H4 pt (.lst ks') = H5 at e05 htj5 hyj5 jo5 hm5 hw5
      have p5 := p.ex e05
      -- question = self.questions[pair[0]]
      obtain ⟨qi, hqi, hzi⟩ := wk.good (i, z) (List.mem_append_right _ (List.mem_singleton.mpr rfl))
      replace hqi : ts[i]? = some qi := hqi
      have il' : i < ts.length := (List.getElem?_eq_some_iff.mp hqi).1
      obtain ⟨vi, hvi⟩ : ∃ x, vs[i]? = some x := ⟨_, List.getElem?_eq_getElem (by rw [p.qln]; exact il')⟩
      refine q_asg (v := vi) (ev_op (ev_fld (ev_var rfl) p5.at_ TN.cl TN.nq NF_questions) (ev_op (ev_var rfl) ev_c (rv_ixT (st_of htj5) (atI_nat (j := 0) rfl))) (rv_ixL (sq_of p5.qat) (atI_nat hvi))) fun H6 e6 => ?_
      have p6 := p5.ex e6
      have e06 := e05.trans e6
      have qis := p6.qis i vi qi hvi hqi
      obtain ⟨qa, dxq, kk, pp, nn, sz, rfl, hqa, kw⟩ := qis.kind
      refine s_if (b := decide (kk = 3)) (et_is (et_eqN (ev_fld (ev_var rfl) hqa TQ.cl TQ.nk QF_kind)) (by rw [decide_eq_decide]; omega)) (fun hb H7 e7 => ?_) (fun hb H7 e7 => ?_)
      · -- a word
        have hk : kk = 3 := of_decide_eq_true hb
        obtain ⟨wd, rfl⟩ : ∃ w, qi = .word w := by
          rcases kw with h | h
          · exact h.2
          · exact absurd hk h.1
        have e67 := e6.trans e7
        refine s_dput (kk := Sum.inl (z.1 : Int)) (v := .bl true) ev_c (ev_var rfl) (ev_st0 (ev_op (ev_var rfl) ev_c (rv_ixT (st_of (e67 _ _ htj5)) (atI_nat (j := 1) rfl))) (hyj5.ex e67)) (e67 _ _ hm5) (by
          have := congrArg List.length hkeys
          rw [List.length_map, keysN, List.length_map] at this
          omega) fun H8 e8 => ?_
        have e68 := e67.trans e8
        have pmn : ∀ xs, H8 pm ≠ some (.tup xs) := fun xs zz => by rw [e68 _ _ hm5] at zz; cases zz
        refine ⟨_, _, ks', _, Ns.putN M z.1, W', rfl, Ex.mut (e05.trans e68) npm, upd_same, keys_put hkeys z.1 _, ?_, (jo5.ex e68).put pmn, wk.word hqi, ?_⟩
        · rw [upd_ne pmt.symm]
          exact e68 _ _ hw5
        · have := Ns.nodes_last (W := W') (U := []) (x := z) (n := 0) hqi (by show 0 < 1; decide)
          rw [List.append_nil] at this
          exact this
      · -- what makes it, in its place
        have hk : kk ≠ 3 := of_decide_eq_false hb
        have nw : ∀ w, qi ≠ .word w := by
          rcases kw with h | h
          · exact absurd h.1 hk
          · exact h.2
        have e67 := e6.trans e7
        have p7 := p5.ex e67
        have wl := wk.len
        rw [List.length_append, List.length_singleton] at wl
        refine s_extR (R := fun U => U.length ≤ 2 ∧ Ns.jobsNodes ts U < Ns.nodes qi ∧ ∀ i0 L W M, Ns.Walk d.text ts i0 L (W ++ [(i, z)]) M → Ns.Walk d.text ts i0 L (W ++ U) M) (e67 _ _ hw5) (ev_var rfl) (ev_var rfl) (e7 _ _ hqa) QF_mk
          (ea_cons (ev_op (ev_var rfl) ev_c (rv_ixT (st_of (e67 _ _ htj5)) (atI_nat (j := 1) rfl))) (ea_cons (ev_fld (ev_var rfl) p7.at_ TN.cl TN.ns NF_stretches) ea_nil))
          (fun H8 e8 Q8 k8 E8 => ?_) (fun U hU => by have := jo5.len; omega) fun U zs H8 hU e8 ju => ?_
        · have p8 := p7.ex e8
          exact ⟨.ref qa, yj, ps, z, d.text, ts, i, qi, rs, rfl, p8.qis i _ qi hvi hqi, nw, hqi, hyj5.ex (e67.trans e8), sq_of p8.rat, fun j q' h1 h2 => p8.row j q' (by omega) h2, fun U u2 un uw => k8 U ⟨u2, un, uw⟩⟩
        · have e68 := e67.trans e8
          have ptn2 : ∀ xs, H8 pt ≠ some (.tup xs) := fun xs zz => by rw [e68 _ _ hw5] at zz; cases zz
          refine ⟨_, _, ks' ++ zs, kvs', M, W' ++ U, rfl, Ex.mut (e05.trans e68) nptH, ?_, hkeys, upd_same, ((jo5.ex e68).put ptn2).app (ju.put ptn2), hU.2.2 _ _ _ _ wk, Ns.nodes_last (n := 0) hqi hU.2.1⟩
          rw [upd_ne pmt]
          exact e68 _ _ hm5
    · -- return sorted(made)
      have wn : W = [] := by
        have : ks = [] := by simpa using hb
        subst this
        cases jo
        rfl
      subst wn
      refine s_retB (ea_cons (ev_var rfl) ea_nil) fun H4 e4 => ⟨pm, kvs', M.map fun (n : Nat) => (n : Int), rfl, Or.inl ((e3.trans e4) _ _ hm), ?_, by rw [List.length_map]; omega, fun ys pr hp hs np => ?_⟩
      · rw [hkeys, keysN, List.map_map]
        rfl
      · have es := Ns.sorted_places (L := Rh06.shows d.text q y) hp hs wk.nd (fun z => by rw [wk.all z]; simp) (Ns.shows_up d.text q y)
        have e04 : Ex H H4 := e.trans (e3.trans e4)
        refine k pr _ (fresh_back e04 np) (e04.trans (Ex.new np)) ?_
        rw [upd_same, es, nums, List.map_map]
        rfl
end
end Nr

set_option Elab.async false
set_option linter.all false
set_option maxRecDepth 100000
set_option maxHeartbeats 2000000
namespace Nr
open PySem PySem.Spec PyProof.Rows L2 Evl
open Rh06 (Stretch)
def intsV (l : List Int) : List V := l.map V.int
/-! ### Nearness() -/
def spNInit (CN CQ : Addr) : Sp := fun vs H Q _ => ∃ p dx : Addr, vs = [.ref p] ∧ H p = some (.ins CN dx []) ∧
  ∀ H' own, DeskAt CN CQ H' p own Rh06.init [] → (∀ b o, H b = some o → b ≠ p → H' b = some o) → (∀ b ∈ own, b = p ∨ H b = none) → Q .non H'
section
variable {P : Program} {w : World} {K : PySem.W.Frag} {mg : Str → Option Value} {base : Heap} {CN CQ : Addr}
theorem NF_new {a b c d : Addr} : putF "laid" (.ref d) (putF "stretches" (.ref c) (putF "questions" (.ref b) (putF "words" (.ref a) []))) = NF a b c d := by
  show putF "laid" (.ref d) (putF "stretches" (.ref c) (putF "questions" (.ref b) [("words", .ref a)])) = _
  rw [put_past (by decide +kernel)]
  show putF "laid" (.ref d) (putF "stretches" (.ref c) [("words", .ref a), ("questions", .ref b)]) = _
  rw [put_past (by decide +kernel), put_past (by decide +kernel)]
  show putF "laid" (.ref d) [("words", .ref a), ("questions", .ref b), ("stretches", .ref c)] = _
  rw [put_past (by decide +kernel), put_past (by decide +kernel), put_past (by decide +kernel)]
  rfl
theorem m_ninit {f : Addr} {fd : FuncData} (T : ClsN K CN) (M : Mk K CN f) (hm : mg "Nearness" = some (.ref CN)) (F : C8.Fun K "__init__" "Nearness.__init__" sNInit f fd) (b : Binds K fd ["self"] []) : C8.Mak P w K mg base 1 "Nearness" CN (spNInit CN CQ) [] := by
  refine C8.mak0 M hm F b .nil (C8.fnScope_by (N := ["self"]) (by decide +kernel)) (fun vs H Q E h => ?_) (fun cdv A outer s H vs Q E hr h => ⟨_,
    pss_cons (ps_fld (pv 0) (pe_lst pa_nil) rfl) (pss_cons (ps_fld (pv 0) (pe_lst pa_nil) rfl) (pss_cons (ps_fld (pv 0) (pe_lst pa_nil) rfl) (pss_one (ps_fld (pv 0) pe_dnewK rfl)))), ?_⟩)
  · obtain ⟨p, dx, rfl, _⟩ := h
    rfl
  · obtain ⟨p, dx, rfl, hp, q⟩ := h
    have l4 : ∀ {x y z : V}, (putF "stretches" z (putF "questions" y (putF "words" x []))).length < 1000 ∧ (putF "questions" y (putF "words" x [])).length < 1000 ∧ (putF "words" x []).length < 1000 := fun {x y z} => by
      have h1 := putF_len "stretches" z (putF "questions" y (putF "words" x []))
      have h2 := putF_len "questions" y (putF "words" x [])
      have h3 := putF_len "words" x []
      rw [List.length_nil] at h3
      omega
    refine q_fldL (el_lst ea_nil (Nat.zero_le _)) (ev_var rfl) hp T.cl T.nw (by show 0 < 1000; decide) fun a H1 na e1 ha => ?_
    have pa : a ≠ p := fun z => by rw [z, hp] at na; cases na
    refine q_fldL (el_lst ea_nil (Nat.zero_le _)) (ev_var rfl) upd_same T.cl T.nq (l4 (y := .non) (z := .non)).2.2 fun b H2 nb e2 hb => ?_
    have pb : b ≠ p := fun z => by rw [z, upd_same] at nb; cases nb
    have ha2 : H2 a = some (.lst []) := e2 _ _ (by rw [upd_ne pa]; exact ha)
    have ab : a ≠ b := fun z => by rw [← z, upd_ne pa, ha] at nb; cases nb
    have nb0 : H b = none := fresh_back e1 (by rw [upd_ne pb] at nb; exact nb)
    refine q_fldL (el_lst ea_nil (Nat.zero_le _)) (ev_var rfl) upd_same T.cl T.ns (l4 (z := .non)).2.1 fun c H3 nc e3 hc => ?_
    have pc : c ≠ p := fun z => by rw [z, upd_same] at nc; cases nc
    have ha3 : H3 a = some (.lst []) := e3 _ _ (by rw [upd_ne pa]; exact ha2)
    have hb3 : H3 b = some (.lst []) := e3 _ _ (by rw [upd_ne pb]; exact hb)
    have ac : a ≠ c := fun z => by rw [← z, upd_ne pa, ha2] at nc; cases nc
    have bc : b ≠ c := fun z => by rw [← z, upd_ne pb, hb] at nc; cases nc
    have k1 : ∀ x o, H x = some o → x ≠ p → H2 x = some o := fun x o h n => e2 _ _ (by rw [upd_ne n]; exact e1 _ _ h)
    have nc0 : H c = none := by
      cases h : H c with
      | none => rfl
      | some o =>
        rw [upd_ne pc, k1 c o h pc] at nc
        cases nc
    refine fun dd nd => ⟨_, rfl, p, CN, dx, _, rfl, by rw [upd_ne (ne_of_none upd_same nd)]; exact upd_same, T.cl, T.nl, l4.1, ?_⟩
    have pd : dd ≠ p := fun z => by rw [z, upd_same] at nd; cases nd
    rw [NF_new]
    have nd0 : H dd = none := by
      cases h : H dd with
      | none => rfl
      | some o =>
        rw [upd_ne pd, e3 dd o (by rw [upd_ne pd]; exact k1 dd o h pd)] at nd
        cases nd
    have ad : a ≠ dd := fun z => by rw [← z, upd_ne pa, ha3] at nd; cases nd
    have bd : b ≠ dd := fun z => by rw [← z, upd_ne pb, hb3] at nd; cases nd
    have cd : c ≠ dd := fun z => by rw [← z, upd_ne pc, hc] at nd; cases nd
    refine q _ (foot p a b c dd []) ⟨dx, a, b, c, dd, [], [], [], rfl, ⟨upd_same, ?_, Nat.zero_le _, ?_, rfl, fun i v q h => ?_, ?_, rfl, fun j q h => absurd h (Nat.not_lt_zero _), ?_, Nat.le_refl _, fun s => rfl, bc, ab, ac, fun a m => nomatch m⟩⟩ (fun x o h n => ?_) (fun x m => ?_)
    · rw [upd_ne pa, upd_ne ad, upd_ne pa]; exact ha3
    · rw [upd_ne pb, upd_ne bd, upd_ne pb]; exact hb3
    · cases h
    · rw [upd_ne pc, upd_ne cd, upd_ne pc]; exact hc
    · rw [upd_ne pd]; exact upd_same
    · have xd : x ≠ dd := fun z => by rw [z, nd0] at h; cases h
      rw [upd_ne n, upd_ne xd, upd_ne n]
      exact e3 _ _ (by rw [upd_ne n]; exact k1 x o h n)
    · unfold foot refs at m
      simp only [List.mem_cons, List.filterMap_nil, List.not_mem_nil, or_false] at m
      rcases m with z | z | z | z | z
      · exact .inl z
      · exact .inr (by rw [z]; exact nb0)
      · exact .inr (by rw [z]; exact nc0)
      · exact .inr (by rw [z]; exact nd0)
      · exact .inr (by rw [z]; exact na)
end
end Nr

set_option Elab.async false
set_option linter.all false
set_option maxRecDepth 100000
set_option maxHeartbeats 2000000
namespace Nr
open PySem PySem.Spec PyProof.Rows L2 Evl
open Rh06 (Stretch)
/-! ### where a call is over -/
theorem head_len {l w t : List Int} (h : Ns.Head l w t) : t.length < l.length := by
  cases h with
  | row p ws t hp => simp only [List.length_cons, List.length_append]; omega
  | args p as t h1 h2 h3 => simp only [List.length_cons, List.length_append]; omega
/-- the table of how many numbers stand behind a call's own -/
def behind (c : Int) : Int := if c = 0 ∨ c = 1 then 1 else (Ns.arity c : Int)
structure Behind (K : PySem.W.Frag) (mg : Str → Option Value) (nb : List V) : Prop where
  ex : ∃ a, mg "NUMBERS_BEHIND" = some (.ref a) ∧ ∀ H, SqT K H a nb
  tab : ∀ c : Nat, c ≤ 21 → nb[c]? = some (.int (behind (c : Int)))
def spEnd (K : PySem.W.Frag) : Sp := fun vs H Q _ => ∃ (a : Addr) (s : Nat) (l w t : List Int), vs = [.ref a, .int (s : Int)] ∧ SqL K H a (intsV l) ∧ Ns.Head (l.drop s) w t ∧ RetV (.int ((l.length - t.length : Nat) : Int)) H Q
theorem drop_at {l r : List Int} {s : Nat} (h : l.drop s = r) (i : Nat) : l[s + i]? = r[i]? := by
  rw [← h, List.getElem?_drop]
section
variable {P : Program} {w : World} {K : PySem.W.Frag} {mg : Str → Option Value} {base : Heap} {CN CQ : Addr}
theorem ev_at {σ : L2.St} {H : Hp} {ta tb : TE} {a : Addr} {l : List Int} {j : Nat} {x : Int} (h : Ev ta σ H (.ref a)) (hl : SqL K H a (intsV l)) (hj : Ev tb σ H (.int (j : Int))) (hx : l[j]? = some x) : Ev (tOp (rIxL K) ta tb) σ H (.int x) :=
  ev_op h hj (rv_ixL hl (atI_nat (by unfold intsV; rw [List.getElem?_map, hx]; rfl)))
theorem c_end {f : Addr} {fd : FuncData} {nb : List V} (D : C8.Def K mg "end_of_call" sEndOfCall f fd) (b : Binds K fd ["calls", "start"] []) (B : Behind K mg nb) (nT : Num mg "TEXT" 0) (nA : Num mg "ADD" 1) : C8.Cal P w K mg base 1 "end_of_call" (spEnd K) [] := by
  obtain ⟨ab, mb, hnb⟩ := B.ex
  have sc : FnScope ["calls", "start", "end"] ["calls", "start"] (C8.fnScope sEndOfCall) := C8.fnScope_by (by decide +kernel)
  refine C8.cal0 D b .nil sc (fun vs H Q E h => ?_) (fun cdv A outer s H vs Q E hr h => ⟨_,
    pss_cons (ps_set (i := 2) sc.nd rfl (Or.inl rfl) (pe_op op_add (pe_op op_add (pv 1) pe_int) (pe_ix ix_tup (C8.pe_gc (v := .ref ab) rfl ⟨_, mb, rfl⟩) (pe_ix ix_list (pv 0) (pv 1) (fun _ _ => rfl)) (fun _ _ => rfl))))
    (pss_cons (ps_if (pt_cmpR op_in_seq (pe_ix ix_list (pv 0) (pv 1) (fun _ _ => rfl)) (pe_tup (pa_cons (C8.pe_gc rfl nT) (pa_cons (C8.pe_gc rfl nA) pa_nil))) rfl)
      (pss_one (ps_aug (i := 2) sc.nd rfl (Or.inl rfl) (pe_ix ix_list (pv 0) (pe_op op_add (pv 1) pe_int) (fun _ _ => rfl)) ip_add)) pss_nil)
    (pss_one (ps_ret (pv 2)))), ?_⟩)
  · obtain ⟨a, s, l, w, t, rfl, _⟩ := h
    rfl
  · obtain ⟨a, s, l, wc, t, rfl, hl, hd, q⟩ := h
    -- the call's own number
    obtain ⟨c, r, hc, c21⟩ : ∃ (c : Nat) (r : List Int), l.drop s = (c : Int) :: r ∧ c ≤ 21 := by
      cases e : l.drop s with
      | nil => rw [e] at hd; cases hd
      | cons x r =>
        rw [e] at hd
        cases hd with
        | row p ws t hp => exact ⟨x.toNat, _, by rcases hp with rfl | rfl <;> rfl, by rcases hp with rfl | rfl <;> decide⟩
        | args p as t h1 h2 h3 => exact ⟨x.toNat, as ++ t, by rw [Int.toNat_of_nonneg (by omega)], by omega⟩
    have at0 : l[s]? = some (c : Int) := by have := drop_at hc 0; rw [Nat.add_zero] at this; rw [this]; rfl
    have sl : s < l.length := (List.getElem?_eq_some_iff.mp at0).1
    have len : l.length = s + (r.length + 1) := by
      have := congrArg List.length hc
      rw [List.length_drop, List.length_cons] at this
      omega
    refine q_asg (v := .int ((s : Int) + 1 + behind (c : Int))) (ev_op (ev_op (ev_var rfl) ev_c rv_I0) (ev_op ev_c (ev_at (ev_var rfl) hl (ev_var rfl) at0) (rv_ixT (hnb H) (atI_nat (B.tab c c21)))) rv_I0) fun H1 e1 => ?_
    have test : EvT (tTest (tOp (rIn K false) (tOp (rIxL K) (tVar 0) (tVar 1)) (tTup (tCons (tC (.int 0)) (tCons (tC (.int 1)) tNil))))) [some (.ref a), some (.int (s : Int)), some (.int ((s : Int) + 1 + behind (c : Int)))] H1 (decide (c = 0 ∨ c = 1)) := by
      refine et_test (ev_is (ev_inU (ev_at (ev_var rfl) (ex_l e1 hl) (ev_var rfl) at0) (eu_tup (ea_cons ev_c (ea_cons ev_c ea_nil)) (by show 2 ≤ 100000; decide)) rfl rfl) ?_)
      congr 1
      unfold inV
      simp only [List.any_cons, List.any_nil, eqV, Bool.or_false]
      rw [Bool.eq_iff_iff]
      simp only [Bool.or_eq_true, beq_iff_eq, decide_eq_true_eq]
      omega
    rw [hc] at hd
    refine q_when test (fun hb H2 e2 => ?_) (fun hb H2 e2 => ?_)
    · have hb' := of_decide_eq_true hb
      cases hd with
      | row p ws t hp =>
        have at1 : l[s + 1]? = some (ws.length : Int) := by rw [drop_at hc 1]; rfl
        have z1 : behind (c : Int) = 1 := if_pos (by omega)
        refine s_aug (a := (s : Int) + 1 + behind (c : Int)) (b := (ws.length : Int)) (D := { nx := tRet (tVar 2) _, rt := Q }) rfl (ev_at (j := s + 1) (ev_var rfl) (ex_l (e1.trans e2) hl) (ev_is (ev_op (ev_var rfl) ev_c rv_I0) (by simp)) at1) fun H3 e3 => ?_
        refine s_ret (v := .int ((l.length - t.length : Nat) : Int)) (ev_is (ev_var rfl) ?_) fun H4 e4 => q H4 (((e1.trans e2).trans e3).trans e4)
        congr 1
        rw [z1, len, List.length_cons, List.length_append]
        omega
      | args p as t h1 h2 h3 => omega
    · have hb' := of_decide_eq_false hb
      cases hd with
      | row p ws t hp => omega
      | args p as t h1 h2 h3 =>
        have z1 : behind (c : Int) = (Ns.arity (c : Int) : Int) := if_neg (by omega)
        refine s_ret (v := .int ((l.length - t.length : Nat) : Int)) (ev_is (ev_var rfl) ?_) fun H4 e4 => q H4 ((e1.trans e2).trans e4)
        congr 1
        rw [z1, len, List.length_append, h3]
        omega
end
end Nr

set_option Elab.async false
set_option linter.all false
set_option maxRecDepth 100000
set_option maxHeartbeats 2000000
namespace Nr
open PySem PySem.Spec PyProof.Rows L2 Evl
open Rh06 (Stretch)
/-- a call's own number and what stands behind it, as the list has it; the call as the specification has it -/
inductive CallIs : Int → List Int → List Int → Prop
  | row (p : Int) (ws : List Int) : p = 0 ∨ p = 1 → CallIs p ((ws.length : Int) :: ws) (p :: ws)
  | args (p : Int) (as : List Int) : 2 ≤ p → p ≤ 21 → as.length = Ns.arity p → CallIs p as (p :: as)
theorem head_is {l w t : List Int} (h : Ns.Head l w t) : ∃ p ns, l = p :: (ns ++ t) ∧ CallIs p ns w := by
  cases h with
  | row p ws t hp => exact ⟨p, _, rfl, .row p ws hp⟩
  | args p as t h1 h2 h3 => exact ⟨p, _, rfl, .args p as h1 h2 h3⟩
/-- every number within what may be handed in -/
def Small (l : List Int) : Prop := ∀ x ∈ l, 0 ≤ x ∧ x ≤ 4294967295
/-- what one call answers, and the desk behind it -/
def spAnswer (CN CQ : Addr) : Sp := fun vs H Q _ => ∃ (st an : Addr) (own : List Addr) (d : Rh06.St) (ts : List Rh06.Q) (c : Int) (ns w : List Int), vs = [.ref st, .int c, .ref an] ∧ DeskAt CN CQ H st own d ts ∧ ts.length ≤ 400 ∧ H an = some (.lst (intsV ns)) ∧ an ∉ own ∧ CallIs c ns w ∧ Small (c :: ns) ∧ ns.length ≤ 3000 ∧ (Rh06Neutral.step d w).2.length ≤ 2000000 ∧
  ∀ H' own' ts' p, DeskAt CN CQ H' st own' (Rh06Neutral.step d w).1 ts' → ts'.length ≤ ts.length + 1 → Frame H H' own own' → (p ∈ own ∨ H p = none) → p ∉ own' → H' p = some (.lst (intsV (Rh06Neutral.step d w).2)) → Q (.ref p) H'
def spAnswers (K : PySem.W.Frag) : Sp := fun vs H Q _ => ∃ (a : Addr) (l : List Int), vs = [.ref a] ∧ SqL K H a (intsV l) ∧ l.length ≤ 3000 ∧ Small l ∧ PyRh06.answers_asked l = true ∧
  ∀ (H' : Hp) (p : Addr), H' p = some (.lst (intsV (PyRh06.answers l))) → Q (.ref p) H'
/-! ### what a line answers, call by call -/
theorem told_cons (a : List Int) (r : List (List Int)) : Ns.toldOf (a :: r) = ((a.length : Int) :: a) ++ Ns.toldOf r := rfl
theorem told_len : ∀ (ws : List (List Int)) (d : Rh06.St), (Ns.toldOf (Ns.played d ws)).length = ws.length + Rh06Neutral.many d ws
  | [], _ => rfl
  | w :: ws, d => by
    show (Ns.toldOf ((Rh06Neutral.step d w).2 :: Ns.played (Rh06Neutral.step d w).1 ws)).length = (w :: ws).length + ((Rh06Neutral.step d w).2.length + Rh06Neutral.many (Rh06Neutral.step d w).1 ws)
    rw [told_cons, List.length_append, told_len ws, List.length_cons, List.length_cons]
    omega
theorem Small.drop {l : List Int} (h : Small l) (n : Nat) : Small (l.drop n) := fun x m => h x (List.mem_of_mem_drop m)
section
variable {P : Program} {w : World} {K : PySem.W.Frag} {mg : Str → Option Value} {base : Heap} {CN CQ : Addr}
theorem sz_big {n : Nat} (h : n < 10000000) : n < sizeLine := Nat.lt_of_lt_of_le h (by decide)
theorem q_appZ {σ : L2.St} {H : Hp} {ta te : TE} {D : Ends} {tz : TS} {v : V} {l : Addr} {xs : List V} (hl : H l = some (.lst xs)) (ha : Ev ta σ H (.ref l)) (h : Ev te σ H v) (hz : xs.length < 10000000) (k : ∀ H1, Ex H H1 → tz D σ (upd H1 l (.lst (xs ++ [v])))) : tSeq (tDrop (tBM K "list" rAppend ta (tCons te tNil))) tz D σ H :=
  ha H (Ex.refl H) _ fun H1 e1 => ⟨Or.inl ⟨rfl, xs, sq_of (e1 l _ hl)⟩, h H1 e1 _ fun H2 e2 => ⟨l, xs, v, rfl, rfl, e2 l _ (e1 l _ hl), sz_big hz, k H2 (e1.trans e2)⟩⟩
theorem q_extZ {σ : L2.St} {H : Hp} {ta te : TE} {D : Ends} {tz : TS} {l b : Addr} {xs ys : List V} (hl : H l = some (.lst xs)) (hb : H b = some (.lst ys)) (ha : Ev ta σ H (.ref l)) (h : Ev te σ H (.ref b)) (hz : xs.length + ys.length < 10000000) (k : ∀ H1, Ex H H1 → tz D σ (upd H1 l (.lst (xs ++ ys)))) : tSeq (tDrop (tBM K "list" rExtend ta (tCons te tNil))) tz D σ H :=
  ha H (Ex.refl H) _ fun H1 e1 => ⟨Or.inl ⟨rfl, xs, sq_of (e1 l _ hl)⟩, h H1 e1 _ fun H2 e2 => ⟨l, b, xs, ys, rfl, rfl, e2 l _ (e1 l _ hl), (e1.trans e2) _ _ hb, Nat.le_of_lt (sz_big hz), k H2 (e1.trans e2)⟩⟩
theorem cut_mid (xs : List V) (i j : Nat) (hi : i ≤ j) (hj : j ≤ xs.length) : cutV xs (some (i : Int)) (some (j : Int)) = (xs.drop i).take (j - i) := by
  unfold cutV
  rw [HT.sIx_nat, HT.sIx_nat, Nat.min_eq_left (show i ≤ xs.length by omega), Nat.min_eq_left hj]
theorem sq_keep {K : PySem.W.Frag} {H H' : Hp} {a : Addr} {xs : List V} (h : SqL K H a xs) (k : ∀ o, H a = some o → H' a = some o) : SqL K H' a xs := by
  rcases h with (h | ⟨o, h⟩) | h
  · exact .inl (.inl (k _ h))
  · exact .inl (.inr ⟨o, k _ h⟩)
  · exact .inr h
/-- x = f(a, b, a new list), something behind -/
theorem q_call2L {σ : L2.St} {H : Hp} {sp : Sp} {t1 t2 t3 : TE} {E : XK} {D : Ends} {tz : TS} {i : Nat} {v1 v2 : V} {xs : List V} (h1 : Ev t1 σ H v1) (h2 : Ev t2 σ H v2) (h3 : EvL t3 σ H xs) (k : ∀ p H2, H p = none → Ex H H2 → H2 p = some (.lst xs) → sp [v1, v2, .ref p] H2 (fun v H3 => tz D (σ.set i (some v)) H3) E) : tSeq (tAsg (tCall sp [] E (tCons t1 (tCons t2 (tCons t3 tNil)))) (gName i)) tz D σ H :=
  h1 H (Ex.refl H) _ fun H1 e1 => h2 H1 e1 _ fun H2 e2 => h3 H2 (e1.trans e2) _ fun p H3 np e3 hp => k p H3 (fresh_back (e1.trans e2) np) ((e1.trans e2).trans e3) hp
theorem many_le {d : Rh06.St} {w : List Int} {ws : List (List Int)} : (Rh06Neutral.step d w).2.length ≤ Rh06Neutral.many d (w :: ws) := Nat.le_add_right _ _
theorem c_answers {f : Addr} {fd : FuncData} (D : C8.Def K mg "answers" sAnswers f fd) (b : Binds K fd ["calls"] []) (NM : C8.Mak P w K mg base 1 "Nearness" CN (spNInit CN CQ) []) (EN : C8.Cal P w K mg base 1 "end_of_call" (spEnd K) []) (AN : C8.Cal P w K mg base 12 "answer" (spAnswer CN CQ) []) (ml : mg "len" = none) : FnOk P w K mg base C8.CX0 13 f fd ["calls"] (spAnswers K) := by
  have sc : FnScope ["calls", "state", "told", "start", "end", "numbers"] ["calls"] (C8.fnScope sAnswers) := C8.fnScope_by (by decide +kernel)
  obtain ⟨fN, fdN, psN, dsN, MN, FN, hmN, bN, dN⟩ := NM.ex
  cases dN
  refine C8.fn0 D.fn sc (fun vs H Q E h => ?_) (fun cdv A outer s H vs Q E hr h => ⟨_,
    pss_cons (ps_set (i := 1) sc.nd rfl (Or.inl rfl) (pe_make0 MN FN (hr.mono (by decide)) rfl hmN bN .nil (C8.pass0 (E := C8.E0))))
    (pss_cons (ps_set (i := 2) sc.nd rfl (Or.inl rfl) (pe_lst pa_nil))
    (pss_cons (ps_set (i := 3) sc.nd rfl (Or.inl rfl) pe_int)
    (pss_cons (ps_while PassesOwn.never (pt_cmpR op_lt (pv 3) (pe_callB call_len_seq rfl ml PySem.boot_len (pa_cons (pv 0) pa_nil)) (nomark _))
      (pss_cons (ps_set (i := 4) sc.nd rfl (Or.inl rfl) (C8.pe_c EN hr (by decide) rfl (pa_cons (pv 0) (pa_cons (pv 3) pa_nil))))
      (pss_cons (ps_set (i := 5) sc.nd rfl (Or.inl rfl) (C8.pe_c AN hr (by decide) rfl (pa_cons (pv 1) (pa_cons (pe_ix ix_list (pv 0) (pv 3) (fun _ _ => rfl)) (pa_cons (pe_slice sl_list (pv 0) (po_some (pe_op op_add (pv 3) pe_int)) (po_some (pv 4))) pa_nil)))))
      (pss_cons (ps_expr (pe_bm PySem.F.plainAttrs_list PySem.F.slot_list_append PySem.F.type_list_append mt_append (pv 2) (pa_cons (pe_callB call_len_seq rfl ml PySem.boot_len (pa_cons (pv 5) pa_nil)) pa_nil)))
      (pss_cons (ps_expr (pe_bm PySem.F.plainAttrs_list PySem.F.slot_list_extend PySem.F.type_list_extend mt_extend (pv 2) (pa_cons (pv 5) pa_nil)))
      (pss_one (ps_set (i := 3) sc.nd rfl (Or.inl rfl) (pv 4))))))))
    (pss_one (ps_ret (pv 2)))))), ?_⟩)
  · obtain ⟨a, l, rfl, _⟩ := h
    rfl
  · obtain ⟨a, l, rfl, hl, h3000, hsm, hask, q⟩ := h
    obtain ⟨ws, hline, hans, hw1, hw40, hcalls, hmany⟩ := Ns.asked_line hask
    rw [hans] at q
    -- state = Nearness()
    refine fun x dx nx nd ne => ⟨x, dx, rfl, upd_same, fun H1 own hdesk kp hown => ⟨rfl, ?_⟩⟩
    have s1 : Ex H H1 := Same.made nx nd kp
    refine q_asgL (el_lst ea_nil (Nat.zero_le _)) fun pt H2 npt e2 hpt => ?_
    refine q_asg (v := .int 0) ev_c fun H3 e3 => ?_
    have hpt3 := e3 _ _ hpt
    have pto : pt ∉ own := hdesk.fresh npt
    have tot := told_len ws Rh06.init
    refine q_while (fun m σ' H' => ∃ (st : Nat) (v4 v5 : Option V) (wr : List (List Int)) (d : Rh06.St) (ts : List Rh06.Q) (own : List Addr) (told : List Int), m = wr.length ∧ σ' = [some (.ref a), some (.ref x), some (.ref pt), some (.int (st : Int)), v4, v5] ∧ st ≤ l.length ∧ Ns.Line (l.drop st) wr ∧
        DeskAt CN CQ H' x own d ts ∧ ts.length + wr.length ≤ 40 ∧ pt ∉ own ∧ (∀ o, H a = some o → H' a = some o ∧ a ∉ own ∧ a ≠ pt) ∧ H' pt = some (.lst (intsV told)) ∧ told ++ Ns.toldOf (Ns.played d wr) = Ns.toldOf (Ns.played Rh06.init ws))
      ws.length ⟨0, none, none, ws, Rh06.init, [], own, [], rfl, rfl, Nat.zero_le _, by rw [List.drop_zero]; exact hline, hdesk.ex (e2.trans e3), by simpa using hw40, pto, fun o ho => ⟨((s1.trans e2).trans e3) _ _ ho, fun m => ?_, fun z => by rw [← z, s1 _ _ ho] at npt; cases npt⟩, hpt3, rfl⟩ ?_
    · rcases hown a m with z | z
      · rw [z, nx] at ho; cases ho
      · rw [upd_ne (ne_of_none ho nx), upd_ne (ne_of_none ho nd), ho] at z; cases z
    rintro m σ' H' ⟨st, v4, v5, wr, d, ts, own', told, rfl, rfl, stl, lin, desk, tsl, pto', ha', hp', heq⟩
    have hl' : SqL K H' a (intsV l) := sq_keep hl fun o ho => (ha' o ho).1
    refine ⟨decide (st < l.length), et_test (ev_is (ev_op (ev_var rfl) (ev_len (K := K) (xs := intsV l) (ev_var rfl) hl') rv_I0) ?_), fun c H4 e4 => ?_, fun c H4 e4 => ?_⟩
    · unfold intsV
      rw [List.length_map]
      congr 1
      rw [decide_eq_decide]
      omega
    · have c' := of_decide_eq_true c
      generalize hrest : l.drop st = rest at lin
      cases lin with
      | nil =>
        have := congrArg List.length hrest
        rw [List.length_drop, List.length_nil] at this
        omega
      | cons h1 h2 =>
        rename_i wc t wr
        obtain ⟨p, ns, hpn, hci⟩ := head_is h1
        have hrest' : l.drop st = p :: (ns ++ t) := hrest.trans hpn
        have tl := head_len h1
        have len : l.length = st + (1 + ns.length + t.length) := by
          have := congrArg List.length hrest'
          rw [List.length_drop, List.length_cons, List.length_append] at this
          omega
        have en : l.length - t.length = st + 1 + ns.length := by omega
        have desk4 := desk.ex e4
        have heq2 : told ++ (((Rh06Neutral.step d wc).2.length : Int) :: (Rh06Neutral.step d wc).2 ++ Ns.toldOf (Ns.played (Rh06Neutral.step d wc).1 wr)) = Ns.toldOf (Ns.played Rh06.init ws) := heq
        have htl : told.length + (1 + (Rh06Neutral.step d wc).2.length) ≤ 1000040 := by
          have h := congrArg List.length heq2
          rw [List.length_append, List.length_append, List.length_cons, tot] at h
          omega
        refine ⟨_, fun σ2 H2 h => ⟨wr.length, Nat.lt_succ_self _, h⟩, ?_⟩
        -- end = end_of_call(calls, start)
        refine q_call (vs := [.ref a, .int (st : Int)]) (ea_cons (ev_var rfl) (ea_cons (ev_var rfl) ea_nil)) fun H5 e5 => ⟨a, st, l, wc, t, rfl, ex_l (e4.trans e5) hl', by rw [hrest]; exact h1, fun H6 e6 => ?_⟩
        have e46 := (e4.trans e5).trans e6
        have at0 : l[st]? = some p := by
          have := drop_at hrest' 0
          rw [Nat.add_zero] at this
          rw [this]
          rfl
        have cut : cutV (intsV l) (some (((st + 1 : Nat)) : Int)) (some ((l.length - t.length : Nat) : Int)) = intsV ns := by
          rw [cut_mid _ _ _ (by omega) (by unfold intsV; rw [List.length_map]; omega), en]
          unfold intsV
          rw [← List.map_drop, ← List.map_take]
          congr 1
          rw [show st + 1 + ns.length - (st + 1) = ns.length by omega, ← List.drop_drop, hrest']
          show (ns ++ t).take ns.length = ns
          exact List.take_left' rfl
        -- numbers = answer(state, calls[start], calls[start + 1:end])
        refine q_call2L (v1 := .ref x) (v2 := .int p) (xs := intsV ns) (ev_var rfl) (ev_at (ev_var rfl) (ex_l e46 hl') (ev_var rfl) at0) (by
          rw [← cut]
          exact el_sl (ev_var rfl) (eo_some (ev_is (ev_op (ev_var rfl) ev_c rv_I0) (by simp))) (eo_some (ev_var rfl)) (ex_l e46 hl')) fun pn H7 npn e7 hpn7 => ?_
        have e47 := e46.trans e7
        have sm : Small (p :: ns) := fun z m => hsm z (List.mem_of_mem_drop (i := st) (by rw [hrest', ← List.cons_append]; exact List.mem_append_left _ m))
        have nsl : ns.length ≤ 3000 := by omega
        refine ⟨x, pn, own', d, ts, p, ns, wc, rfl, desk.ex e47, by omega, hpn7, (desk.ex e46).fresh npn, hci, sm, nsl, by omega, fun H8 own8 ts8 pa desk8 ts8l fr npa pao ha8 => ?_⟩
        have ptn : H7 pt = some (.lst (intsV told)) := e47 _ _ hp'
        have pt8 : H8 pt = some (.lst (intsV told)) := fr.keep _ _ ptn pto'
        have pto8 : pt ∉ own8 := fun m => (fr.new pt m).elim pto' fun z => by rw [ptn] at z; cases z
        have pap : pa ≠ pt := fun z => npa.elim (fun m => pto' (z ▸ m)) fun n => by rw [z, ptn] at n; cases n
        -- told.append(len(numbers))
        refine q_appZ (v := .int ((Rh06Neutral.step d wc).2.length : Int)) pt8 (ev_var rfl) (ev_is (ev_len (K := K) (xs := intsV (Rh06Neutral.step d wc).2) (ev_var rfl) (sq_of ha8)) (by unfold intsV; rw [List.length_map])) (by unfold intsV; rw [List.length_map]; omega) fun H9 e9 => ?_
        have ha9 : (upd H9 pt (.lst (intsV told ++ [.int ((Rh06Neutral.step d wc).2.length : Int)]))) pa = some (.lst (intsV (Rh06Neutral.step d wc).2)) := by rw [upd_ne pap]; exact e9 _ _ ha8
        have desk9 := (desk8.ex e9).apart (o := .lst (intsV told ++ [.int ((Rh06Neutral.step d wc).2.length : Int)])) (e9 _ _ pt8) pto8
        -- told.extend(numbers)
        refine q_extZ upd_same ha9 (ev_var rfl) (ev_var rfl) (by unfold intsV; rw [List.length_append, List.length_map, List.length_map, List.length_singleton]; omega) fun H10 e10 => ?_
        have desk10 := (desk9.ex e10).apart (o := .lst (intsV told ++ [.int ((Rh06Neutral.step d wc).2.length : Int)] ++ intsV (Rh06Neutral.step d wc).2)) (e10 _ _ upd_same) pto8
        refine s_asg (v := .int ((l.length - t.length : Nat) : Int)) (ev_var rfl) fun H11 e11 => ?_
        refine ⟨l.length - t.length, some (.int ((l.length - t.length : Nat) : Int)), some (.ref pa), wr, (Rh06Neutral.step d wc).1, ts8, own8, told ++ (((Rh06Neutral.step d wc).2.length : Int) :: (Rh06Neutral.step d wc).2), rfl, rfl, by omega, ?_, desk10.ex e11, ?_, pto8, ?_, ?_, ?_⟩
        · have z : l.drop (l.length - t.length) = t := by
            rw [en, show st + 1 + ns.length = st + (1 + ns.length) by omega, ← List.drop_drop, hrest', show 1 + ns.length = ns.length + 1 by omega]
            show (ns ++ t).drop ns.length = t
            exact List.drop_left' rfl
          rw [z]
          exact h2
        · rw [List.length_cons] at tsl
          omega
        · intro o ho
          obtain ⟨h1a, h2a, h3a⟩ := ha' o ho
          have h7a : H7 a = some o := e47 _ _ h1a
          refine ⟨e11 _ _ ?_, (fun m => (fr.new a m).elim h2a fun z => by rw [h7a] at z; cases z), h3a⟩
          rw [upd_ne h3a]
          refine e10 _ _ ?_
          rw [upd_ne h3a]
          exact e9 _ _ (fr.keep _ _ h7a h2a)
        · rw [e11 _ _ upd_same]
          unfold intsV
          simp
        · rw [← heq2, List.append_assoc]
    · have c' := of_decide_eq_false c
      have : l.drop st = [] := List.drop_of_length_le (by omega)
      rw [this] at lin
      cases lin with
      | nil =>
        refine s_ret (v := .ref pt) (ev_var rfl) fun H5 e5 => q H5 pt ?_
        have heq' : told = Ns.toldOf (Ns.played Rh06.init ws) := by
          rw [← heq]
          exact (List.append_nil _).symm
        rw [← heq']
        exact (e4.trans e5) _ _ hp'
      | cons h1 h2 => cases h1
end
end Nr

set_option Elab.async false
set_option linter.all false
namespace Nr
open PySem L2
theorem Small.nats : ∀ {l : List Int}, Small l → ∃ t : List Nat, l = t.map (fun (n : Nat) => (n : Int)) ∧ l.map Int.toNat = t
  | [], _ => ⟨[], rfl, rfl⟩
  | x :: l, h => by
    obtain ⟨t, e1, e2⟩ := Small.nats (l := l) fun y m => h y (List.mem_cons_of_mem _ m)
    have hx := h x (List.mem_cons_self ..)
    refine ⟨x.toNat :: t, ?_, by rw [List.map_cons, e2]⟩
    rw [List.map_cons, ← e1, Int.toNat_of_nonneg hx.1]
theorem intsV_nat (t : List Nat) : intsV (t.map fun (n : Nat) => (n : Int)) = nums t := by
  unfold intsV nums
  rw [List.map_map]
  rfl
theorem neutral_step {d : Rh06.St} {w : List Int} {c : Rh06.Call} (h : Small w) (hc : Rh06Neutral.callIn (w.map Int.toNat) = some c) : Rh06Neutral.step d w = Rh06.step d c := by
  have e : w.all Rh06Neutral.nat = true := by
    rw [List.all_eq_true]
    intro x m
    have := h x m
    unfold Rh06Neutral.nat
    simp only [Bool.and_eq_true, decide_eq_true_eq]
    omega
  unfold Rh06Neutral.step Rh06Neutral.callOf
  rw [if_neg (by rw [e]; decide), hc]
theorem Small.of_cons {x : Int} {l : List Int} (h : Small (x :: l)) : (0 ≤ x ∧ x ≤ 4294967295) ∧ Small l := ⟨h x (List.mem_cons_self ..), fun y m => h y (List.mem_cons_of_mem _ m)⟩
end Nr

set_option Elab.async false
set_option linter.all false
set_option maxRecDepth 100000
set_option maxHeartbeats 2000000
namespace Nr
open PySem PySem.Spec PyProof.Rows L2
/-- a def of the module as the top has left it, with how its arguments bind -/
def DefAt (K : PySem.W.Frag) (mg : Str → Option Value) (x : Str) (st : Stmt) (ps : List Str) : Prop := ∃ f fd, C8.Def K mg x st f fd ∧ Binds K fd ps []
def MethAt (K : PySem.W.Frag) (C : Addr) (m qual : Str) (st : Stmt) (ps : List Str) : Prop := ∃ f fd, Meth K C m f ∧ C8.Fun K m qual st f fd ∧ Binds K fd ps []
section
variable {K : PySem.W.Frag} {h : Heap} {mg : Str → Option Value}
theorem def_at {x : Str} {st : Stmt} {ps : List Str} {f : Addr} {oc : Value} {od an : Option Addr} {osl : Array (Option Value)} {kV doc pm cdv ct : Value} (X : K.In h) (G : h.Ns mainGlobals mg) (a : PySem.W.nsIn K mainGlobals x = some (some (.ref f)))
    (l : K.lookup f = some ⟨oc, od, .func (PySem.W.fnOf x x (C8.fnArgs st) (C8.fnBody st) (C8.fnScope st) .none kV doc pm an cdv ct), osl⟩) (c : PySem.W.codeIn K cdv x = true) (k : PySem.W.keepIn K (.ref f) = true)
    (b : ∀ (kV doc pm : Value) (an : Option Addr) (cdv ct : Value) (us : List Value), us.length = ps.length → bindArgs (PySem.W.fnOf x x (C8.fnArgs st) (C8.fnBody st) (C8.fnScope st) .none kV doc pm an cdv ct) ⟨us, []⟩ = pure (ps.zip us)) : DefAt K mg x st ps := by
  have F : C8.Fun K x x st f _ := ⟨oc, od, .none, kV, doc, pm, an, cdv, ct, osl, rfl, l, c⟩
  exact ⟨f, _, ⟨F, PySem.W.mg_of X G a, k⟩, F.binds rfl b⟩
theorem meth_at {C : Addr} {m qual : Str} {st : Stmt} {ps : List Str} {f : Addr} {oc : Value} {od an : Option Addr} {osl : Array (Option Value)} {kV doc pm cdv ct : Value} (a : PySem.W.findIn K (.ref C) m = some (some (.ref f))) (i : PySem.W.isFn K (.ref f) = true)
    (l : K.lookup f = some ⟨oc, od, .func (PySem.W.fnOf m qual (C8.fnArgs st) (C8.fnBody st) (C8.fnScope st) .none kV doc pm an cdv ct), osl⟩) (c : PySem.W.codeIn K cdv qual = true) (k : PySem.W.keepIn K (.ref f) = true)
    (b : ∀ (kV doc pm : Value) (an : Option Addr) (cdv ct : Value) (us : List Value), us.length = ps.length → bindArgs (PySem.W.fnOf m qual (C8.fnArgs st) (C8.fnBody st) (C8.fnScope st) .none kV doc pm an cdv ct) ⟨us, []⟩ = pure (ps.zip us)) : MethAt K C m qual st ps := by
  have F : C8.Fun K m qual st f _ := ⟨oc, od, .none, kV, doc, pm, an, cdv, ct, osl, rfl, l, c⟩
  exact ⟨f, _, ⟨a, i, k⟩, F, F.binds rfl b⟩
theorem num_at {x : Str} {n : Int} {t : Tok} (X : K.In h) (G : h.Ns mainGlobals mg) (a : PySem.W.nsIn K mainGlobals x = some (some (.int n t))) : Num mg x n := ⟨_, PySem.W.mg_of X G a, t, rfl⟩
theorem none_at {x : Str} (X : K.In h) (G : h.Ns mainGlobals mg) (a : PySem.W.nsIn K mainGlobals x = some none) : mg x = none := PySem.W.mg_none_of X G a
end
end Nr

set_option Elab.async false
set_option linter.all false
set_option maxRecDepth 100000
set_option maxHeartbeats 2000000
namespace Nr
open PySem PySem.Spec PyProof.Rows L2 Evl
open Rh06 (Stretch)
/-- a new list of whole numbers is given back -/
def RetI (zs : List Int) (H : Hp) (Q : VK) : Prop := ∀ p H2, H p = none → Ex H H2 → H2 p = some (.lst (intsV zs)) → Q (.ref p) H2
theorem RetI.back {zs : List Int} {H H1 : Hp} {Q : VK} (h : RetI zs H Q) (e : Ex H H1) : RetI zs H1 Q := fun p H2 np e2 hp => h p H2 (fresh_back e np) (e.trans e2) hp
theorem RetI.is {zs ys : List Int} {H : Hp} {Q : VK} (h : RetI zs H Q) (e : zs = ys) : RetI ys H Q := e ▸ h
def flatV2 (l : List Stretch) : List V := l.flatMap fun s => [.int (s.1 : Int), .int (s.2 : Int)]
theorem flatV2_len : ∀ l : List Stretch, (flatV2 l).length = 2 * l.length
  | [] => rfl
  | s :: l => by
    have := flatV2_len l
    unfold flatV2 at this ⊢
    rw [List.flatMap_cons, List.length_append, this, List.length_cons]
    simp
    omega
theorem told_V (l : List Stretch) : intsV (Rh06.told l) = .int (l.length : Int) :: flatV2 l := by
  unfold intsV Rh06.told Rh06.ints flatV2
  rw [List.map_cons]
  congr 1
  rw [List.map_map, List.map_flatMap]
  rfl
theorem Sts.take {H : Hp} : ∀ {xs : List V} {l : List Stretch} (n : Nat), Sts H xs l → Sts H (xs.take n) (l.take n)
  | _, _, 0, _ => by rw [List.take_zero, List.take_zero]; exact .nil
  | _, _, n + 1, .nil => .nil
  | _, _, n + 1, .cons a t => .cons a (Sts.take n t)
section
variable {K : PySem.W.Frag} {σ : L2.St} {H H' : Hp} {ta tb te : TE} {x y v : V} {D : Ends} {tz : TS}
theorem q_asgP {i : Nat} {R : Hp → V → Prop} (h : EvP te σ H R) (k : ∀ v H1, Ex H H1 → R H1 v → tz D (σ.set i (some v)) H1) : tSeq (tAsg te (gName i)) tz D σ H := h H (Ex.refl H) _ fun v H1 e r => k v H1 e r
theorem ev_isN (h : Ev te σ H v) : Ev (tIsN te) σ H (.bl (decide (v = .non))) := fun H1 e _ q => h H1 e _ fun H2 e2 => q H2 e2
theorem ep_from {t : TA} {E : XK} {a : Addr} {l : List Stretch} {p : Nat} (h : EvA t σ H [.ref a, .int (p : Int)]) (hl : LAt K H a l) : EvP (tCall (spFirstFrom K) [] E t) σ H fun H v => OptV H (Ns.firstFrom l p) v := fun H1 e Q q =>
  h H1 e _ fun H2 e2 => ⟨a, l, p, rfl, hl.ex (e.trans e2), RetO.of fun v H3 e3 o => q v H3 (e2.trans e3) (o.ex e3)⟩
/-- f(a new list) -/
theorem s_retCL {sp : Sp} {xs : List V} {E : XK} (h : EvL te σ H xs) (hs : ∀ p H1, H p = none → Ex H H1 → H1 p = some (.lst xs) → sp [.ref p] H1 D.rt E) : tRet (tCall sp [] E (tCons te tNil)) D σ H := h H (Ex.refl H) _ fun p H1 np e1 hp => hs p H1 np e1 hp
theorem s_retCS {sp : Sp} {l : List Stretch} {E : XK} (h : EvS te σ H l) (hs : ∀ p H1, H p = none → Ex H H1 → LT H1 p l → sp [.ref p] H1 D.rt E) : tRet (tCall sp [] E (tCons te tNil)) D σ H := h H (Ex.refl H) _ fun p xs H1 np e1 hp s => hs p H1 np e1 ⟨xs, hp, s⟩
theorem ev_sumL {ns : List Int} (h : EvL te σ H (ns.map V.int)) : Ev (tCB (rSum K) (tCons te tNil)) σ H (.int ns.sum) := fun H1 e Q q =>
  h H1 e _ fun p H2 _ e2 hp => ⟨p, ns, rfl, sq_of hp, q H2 e2⟩
theorem el_slN {tl th : TO} {xs : List V} {lo hi : Option Int} (h : EvL te σ H xs) (h1 : EvO tl σ H lo) (h2 : EvO th σ H hi) : EvL (tSl (rSlL K) te tl th) σ H (cutV xs lo hi) := fun H1 e _ q =>
  h H1 e _ fun a H2 _ e2 ha => h1 H2 (e.trans e2) _ fun H3 e3 => h2 H3 ((e.trans e2).trans e3) _ fun H4 e4 =>
    ⟨a, xs, rfl, sq_of ((e3.trans e4) _ _ ha), fun p hp => q p _ (fresh_back ((e2.trans e3).trans e4) hp) (((e2.trans e3).trans e4).trans (Ex.new hp)) upd_same⟩
theorem el_catN {b : Addr} {xs ys : List V} (h1 : EvL ta σ H xs) (h2 : Ev tb σ H (.ref b)) (hb : H b = some (.lst ys)) (hz : xs.length + ys.length ≤ 100000) : EvL (tOp rCat ta tb) σ H (xs ++ ys) := fun H1 e _ q =>
  h1 H1 e _ fun a H2 _ e2 ha => h2 H2 (e.trans e2) _ fun H3 e3 => ⟨a, b, xs, ys, rfl, rfl, e3 _ _ ha, ((e.trans e2).trans e3) _ _ hb, sz_of hz, fun p hp => q p _ (fresh_back (e2.trans e3) hp) ((e2.trans e3).trans (Ex.new hp)) upd_same⟩
theorem s_extT {l : Addr} {xs ys : List V} {t : Addr} (hl : H l = some (.lst xs)) (ha : Ev ta σ H (.ref l)) (h : Ev te σ H (.ref t)) (ht : H t = some (.tup ys)) (hz : xs.length + ys.length ≤ 100000) (k : ∀ H1, Ex H H1 → D.nx σ (upd H1 l (.lst (xs ++ ys)))) :
    tDrop (tBM K "list" NsR.rExtT ta (tCons te tNil)) D σ H :=
  ha H (Ex.refl H) _ fun H1 e1 => ⟨Or.inl ⟨rfl, xs, sq_of (e1 l _ hl)⟩, h H1 e1 _ fun H2 e2 => ⟨l, t, xs, ys, rfl, rfl, (e1.trans e2) l _ hl, (e1.trans e2) t _ ht, sz_of hz, k H2 (e1.trans e2)⟩⟩
end
section
variable {P : Program} {w : World} {K : PySem.W.Frag} {mg : Str → Option Value} {base : Heap}
/-! ### counted, first_counted -/
def spCounted (K : PySem.W.Frag) : Sp := fun vs H Q _ => ∃ (a : Addr) (l : List Stretch), vs = [.ref a] ∧ LAt K H a l ∧ l.length ≤ 1000 ∧ RetI (Rh06.told l) H Q
theorem c_counted {f : Addr} {fd : FuncData} (D : C8.Def K mg "counted" sCounted f fd) (b : Binds K fd ["stretches"] []) (ml : mg "len" = none) : C8.Cal P w K mg base 1 "counted" (spCounted K) [] := by
  have sc : FnScope ["stretches", "numbers", "stretch"] ["stretches"] (C8.fnScope sCounted) := C8.fnScope_by (by decide +kernel)
  refine C8.cal0 D b .nil sc (fun vs H Q E h => ?_) (fun cdv A outer s H vs Q E hr h => ⟨_, pss_cons (ps_set (i := 1) sc.nd rfl (Or.inl rfl) (pe_lst (pa_cons (pe_callB call_len_seq rfl ml PySem.boot_len (pa_cons (pv 0) pa_nil)) pa_nil)))
    (pss_cons (ps_for PassesOwn.never rfl (pi_list (pv 0)) (pg_name (i := 2) sc.nd rfl (Or.inl rfl))
      (pss_one (ps_expr (pe_bm PySem.F.plainAttrs_list PySem.F.slot_list_extend PySem.F.type_list_extend NsR.mt_extT (pv 1) (pa_cons (pv 2) pa_nil)))))
    (pss_one (ps_ret (pv 1)))), ?_⟩)
  · obtain ⟨a, l, rfl, _⟩ := h
    rfl
  · obtain ⟨a, l, rfl, ⟨xs, hxs, hst⟩, hn, q⟩ := h
    refine q_asgL (xs := [.int (l.length : Int)]) (el_lst (ea_cons (ev_is (ev_len (K := K) (ev_var rfl) hxs) (by rw [hst.len])) ea_nil) (by show 1 ≤ 100000; decide)) fun pn H1 np e1 hp => ?_
    refine q_forLn (ev_var rfl) (ex_l e1 hxs) (fun i σ' H' => ∃ v, σ' = [some (.ref a), some (.ref pn), v] ∧ Ex H H' ∧ H' pn = some (.lst (.int (l.length : Int) :: flatV2 (l.take i)))) (fun H2 e2 => ⟨none, rfl, e1.trans e2, by rw [List.take_zero]; exact e2 _ _ hp⟩)
      (fun i σ' H' _ ⟨_, _, e, _⟩ => ex_l e hxs) ?_ ?_
    · rintro i x σ' H' hx ⟨v, rfl, e, hp'⟩
      obtain ⟨s, hs, hsx⟩ := hst.get hx
      obtain ⟨t, rfl, ht⟩ := hsx.ex e
      refine s_extT hp' (ev_var rfl) (ev_var rfl) ht ?_ fun H2 e2 => ⟨some (.ref t), rfl, Ex.mut (e.trans e2) np, ?_⟩
      · rw [List.length_cons, flatV2_len, List.length_take]
        simp
        omega
      · rw [upd_same, take_succ hs]
        unfold flatV2
        rw [List.flatMap_append]
        rfl
    · rintro σ' H' ⟨v, rfl, e, hp'⟩
      rw [hst.len, List.take_length, ← told_V] at hp'
      exact s_ret (v := .ref pn) (ev_var rfl) fun H2 e2 => q pn H2 np (e.trans e2) (e2 _ _ hp')
def spFirstCounted (K : PySem.W.Frag) : Sp := fun vs H Q _ => ∃ (a : Addr) (l : List Stretch) (p : Nat), vs = [.ref a, .int (p : Int)] ∧ LAt K H a l ∧ RetI (Rh06.told (Ns.firstFrom l p).toList) H Q
theorem c_firstCounted {f : Addr} {fd : FuncData} (D : C8.Def K mg "first_counted" sFirstCounted f fd) (b : Binds K fd ["stretches", "place"] []) (FF : C8.Cal P w K mg base 1 "first_from" (spFirstFrom K) []) (CO : C8.Cal P w K mg base 1 "counted" (spCounted K) []) : C8.Cal P w K mg base 2 "first_counted" (spFirstCounted K) [] := by
  have sc : FnScope ["stretches", "place", "found"] ["stretches", "place"] (C8.fnScope sFirstCounted) := C8.fnScope_by (by decide +kernel)
  refine C8.cal0 D b .nil sc (fun vs H Q E h => ?_) (fun cdv A outer s H vs Q E hr h => ⟨_, pss_cons (ps_set (i := 2) sc.nd rfl (Or.inl rfl) (C8.pe_c FF hr (by decide) rfl (pa_cons (pv 0) (pa_cons (pv 1) pa_nil))))
    (pss_one (ps_ret (C8.pe_c CO hr (by decide) rfl (pa_cons (pe_ifExp (pt_cmp (pc_isN (pv 2))) (pe_lst pa_nil) (pe_lst (pa_cons (pv 2) pa_nil))) pa_nil)))), ?_⟩)
  · obtain ⟨a, l, p, rfl, _⟩ := h
    rfl
  · obtain ⟨a, l, p, rfl, hl, q⟩ := h
    refine q_asgP (ep_from (K := K) (ea_cons (ev_var rfl) (ea_cons (ev_var rfl) ea_nil)) hl) fun v H1 e1 o => ?_
    generalize Ns.firstFrom l p = r at o q
    cases r with
    | none =>
      have z : v = .non := o
      subst z
      refine s_retCL (xs := []) (fun H2 e2 Q2 k2 => (et_is (et_B (ev_isN (v := .non) (ev_var rfl))) rfl : EvT _ _ H1 true) H2 e2 _ fun H3 e3 => (el_lst ea_nil (Nat.zero_le _) : EvL _ _ H1 []) H3 (e2.trans e3) _ fun p H4 np e4 hp => k2 p H4 (fresh_back e3 np) (e3.trans e4) hp) fun pn H2 np e2 hp => ?_
      exact ⟨pn, [], rfl, ⟨[], sq_of hp, .nil⟩, Nat.zero_le _, q.back (e1.trans e2)⟩
    | some s =>
      have o' : IsSt H1 v s := o
      obtain ⟨t, rfl, ht⟩ := id o'
      refine s_retCL (xs := [.ref t]) (fun H2 e2 Q2 k2 => (et_is (et_B (ev_isN (v := .ref t) (ev_var rfl))) rfl : EvT _ _ H1 false) H2 e2 _ fun H3 e3 => (el_lst (ea_cons (ev_var rfl) ea_nil) (by show 1 ≤ 100000; decide) : EvL _ _ H1 [.ref t]) H3 (e2.trans e3) _ fun p H4 np e4 hp => k2 p H4 (fresh_back e3 np) (e3.trans e4) hp) fun pn H2 np e2 hp => ?_
      exact ⟨pn, [s], rfl, ⟨[.ref t], sq_of hp, .cons (o'.ex e2) .nil⟩, (by show 1 ≤ 1000; decide), q.back (e1.trans e2)⟩
/-! ### worth_of -/
def worthN (l : List Stretch) : Nat := l.foldr (fun a n => 5040 / Rh06.wide a + n) 0
theorem worth_sum : ∀ l : List Stretch, (l.map fun s => ((5040 / Rh06.wide s : Nat) : Int)).sum = ((worthN l : Nat) : Int)
  | [] => rfl
  | s :: l => by
    rw [List.map_cons, List.sum_cons, worth_sum l]
    show _ = ((5040 / Rh06.wide s + worthN l : Nat) : Int)
    simp
def spWorth (K : PySem.W.Frag) : Sp := fun vs H Q _ => ∃ (a : Addr) (l : List Stretch), vs = [.ref a] ∧ LAt K H a l ∧ l.length ≤ 1000 ∧ Ns.Inn 1000 l ∧ RetV (.int ((worthN l : Nat) : Int)) H Q
theorem c_worth {f : Addr} {fd : FuncData} (D : C8.Def K mg "worth_of" sWorthOf f fd) (b : Binds K fd ["stretches"] []) (W : C8.Cal P w K mg base 1 "width" spWidth []) (ms : mg "sum" = none) (n1 : Num mg "WORTH_OF_ONE_PLACE" 5040) : C8.Cal P w K mg base 2 "worth_of" (spWorth K) [] := by
  have sc : FnScope ["stretches", "stretch"] ["stretches"] (C8.fnScope sWorthOf) := C8.fnScope_by (by decide +kernel)
  refine C8.cal0 D b .nil sc (fun vs H Q E h => ?_) (fun cdv A outer s H vs Q E hr h => ⟨_, pss_one (ps_ret (pe_callB (cr_sum rfl) rfl ms PyProof.Rows.boot_sum (pa_cons
    (pe_lc (own := [("stretch", 1)]) (g := gName 1) (tt := tYes) rfl sc.nd (pi_list (pv 0)) (blkOk_by (N := ["stretches", "stretch"]) (sc := C8.fnScope sWorthOf) (by decide +kernel))
      (fun _ _ _ _ _ => pg_name (i := 1) sc.nd rfl (Or.inl rfl)) (fun _ _ _ _ _ => pts_nil) (fun _ _ _ _ _ => pe_op op_fdiv (C8.pe_gc rfl n1) (C8.pe_c W hr (by decide) rfl (pa_cons (pv 1) pa_nil)))) pa_nil))), ?_⟩)
  · obtain ⟨a, l, rfl, _⟩ := h
    rfl
  · obtain ⟨a, l, rfl, ⟨xs, hxs, hst⟩, hn, inn, q⟩ := h
    rw [← worth_sum] at q
    refine s_ret (ev_sumL (ns := l.map fun s => ((5040 / Rh06.wide s : Nat) : Int)) ?_) q
    have e1 : (l.map fun s => ((5040 / Rh06.wide s : Nat) : Int)).map V.int = given xs.length (fun _ => true) (fun i => V.int ((5040 / Rh06.wide (l.getD i (0, 0)) : Nat) : Int)) := by
      rw [hst.len, given_all l (0, 0) (fun s => V.int ((5040 / Rh06.wide s : Nat) : Int)), List.map_map]
      rfl
    rw [e1]
    refine el_lcL _ _ (ev_var rfl) hxs (by rw [hst.len]; omega) (fun _ => rfl) (fun i y H1 e1 hi H2 e2 Q k => k H2 (Ex.refl H2)) fun i y H1 e1 hi _ => ?_
    obtain ⟨s, hs, hy⟩ := hst.get hi
    have hb := inn s (List.mem_of_getElem? hs)
    rw [List.getD_eq_getElem?_getD, hs]
    have wd : (s.2 : Int) - (s.1 : Int) + 1 = ((Rh06.wide s : Nat) : Int) := by
      show _ = ((s.2 + 1 - s.1 : Nat) : Int)
      omega
    refine ev_is (ev_op ev_c (ev_call (ea_cons (ev_var rfl) ea_nil) fun H2 e2 Q k E => ⟨y, s, rfl, hy.ex (e1.trans e2), k⟩) (rv_I ⟨?_, ?_⟩)) ?_
    · omega
    · omega
    · rw [wd]
      rfl
/-! ### narrowest -/
def wideKey (H : Hp) (v : V) : PyData := .int (((rd H v).2 : Int) - ((rd H v).1 : Int) + 1)
theorem wide_alike (H : Hp) (xs : List V) : PySem.W.AllAlike (xs.map (wideKey H)) := PySem.W.AllAlike.of fun b b' => by
  unfold wideKey
  rw [PySem.W.alike]
theorem wide_sortable (H : Hp) (xs : List V) : PySem.W.Sortable (xs.map (wideKey H)) := PySem.W.Sortable.others fun b => ⟨fun h => (nomatch h), fun ys h => (nomatch h)⟩
theorem wide_order (H : Hp) {xs : List V} {l : List Stretch} (h : Sts H xs l) (hr : Ns.Rising l) (inn : Ns.Inn 1000 l) : (xs.mergeSort (PySem.W.dataLe false (wideKey H))).map (rd H) = Rh06.sorted l := by
  have e : PySem.W.dataLe false (wideKey H) = fun p q => decide (((rd H p).2 : Int) - ((rd H p).1 : Int) + 1 ≤ ((rd H q).2 : Int) - ((rd H q).1 : Int) + 1) := PySem.W.dataLe_int _
  rw [e, ← Ns.sorted_merge hr, ← h.rd]
  refine List.map_mergeSort fun a ha b hb => ?_
  have ia := inn (rd H a) (by rw [← h.rd]; exact List.mem_map_of_mem ha)
  have ib := inn (rd H b) (by rw [← h.rd]; exact List.mem_map_of_mem hb)
  rw [decide_eq_decide]
  show _ ↔ (rd H a).2 + 1 - (rd H a).1 ≤ (rd H b).2 + 1 - (rd H b).1
  omega
def spNarrowest (K : PySem.W.Frag) : Sp := fun vs H Q _ => ∃ (a : Addr) (l : List Stretch) (n : Nat), vs = [.ref a, .int (n : Int)] ∧ LAt K H a l ∧ Ns.Rising l ∧ Ns.Inn 1000 l ∧ RetS ((Rh06.sorted l).take n) H Q
theorem c_narrowest {f : Addr} {fd : FuncData} (D : C8.Def K mg "narrowest" sNarrowest f fd) (b : Binds K fd ["stretches", "most"] []) (B : C8.Cal P w K mg base 1 "width" spWidth []) (ms : mg "sorted" = none) : C8.Cal P w K mg base 4 "narrowest" (spNarrowest K) [] := by
  obtain ⟨fb, fdb, psb, dsb, F, hmb, kpb, bb, db⟩ := B.ex
  cases db
  have sc : FnScope ["stretches", "most"] ["stretches", "most"] (C8.fnScope sNarrowest) := C8.fnScope_by (by decide +kernel)
  refine C8.cal0 D b .nil sc (fun vs H Q E h => ?_) (fun cdv A outer s H vs Q E hr h => ⟨_, pss_one (ps_ret (pe_slice sl_list
    (pe_callBK (NsR.cr_sortBy F hr bb) rfl ms (by decide +kernel) (pa_cons (pv 0) pa_nil) (pk_cons (pe_glob (v := .ref fb) rfl hmb rfl) pk_nil)) po_none (po_some (pv 1)))), ?_⟩)
  · obtain ⟨a, l, n, rfl, _⟩ := h
    rfl
  · obtain ⟨a, l, n, rfl, ⟨xs, hxs, hst⟩, hri, inn, q⟩ := h
    refine s_retL (el_slN (K := K) (el_sortBy (k := wideKey H) (ev_var rfl) ev_c hxs (wide_alike H xs) (wide_sortable H xs) fun x m H2 e2 => ?_) eo_none (eo_some (ev_var rfl))) fun p H1 np e1 hp => ?_
    · obtain ⟨sx, _, hx⟩ := hst.mem m
      refine ⟨x, sx, rfl, hx.ex e2, fun H3 e3 => ⟨e3, .inl ⟨_, rfl, ?_⟩⟩⟩
      unfold wideKey
      rw [hx.rd]
    · rw [cut_take] at hp
      refine q p _ H1 np e1 hp ?_
      have s0 : Sts H (xs.mergeSort (PySem.W.dataLe false (wideKey H))) (Rh06.sorted l) := by
        rw [← wide_order H hst hri inn]
        exact sts_of fun y my => by
          obtain ⟨sy, _, hy⟩ := hst.mem ((List.mergeSort_perm _ _).mem_iff.mp my)
          exact ⟨sy, hy⟩
      exact (s0.take n).ex e1
/-! ### some_fits -/
def spFits (K : PySem.W.Frag) : Sp := fun vs H Q _ => ∃ (a : Addr) (l : List Stretch) (b e : Nat), vs = [.ref a, .int (b : Int), .int (e : Int)] ∧ LAt K H a l ∧ l.length ≤ 1000 ∧ RetV (.bl (l.any fun s => Rh06.isIn s (b, e))) H Q
theorem c_fits {f : Addr} {fd : FuncData} (D : C8.Def K mg "some_fits" sSomeFits f fd) (b : Binds K fd ["stretches", "begin", "end"] []) (ma : mg "any" = none) : C8.Cal P w K mg base 1 "some_fits" (spFits K) [] := by
  have sc : FnScope ["stretches", "begin", "end", "stretch"] ["stretches", "begin", "end"] (C8.fnScope sSomeFits) := C8.fnScope_by (by decide +kernel)
  refine C8.cal0 D b .nil sc (fun vs H Q E h => ?_) (fun cdv A outer s H vs Q E hr h => ⟨_, pss_one (ps_ret (pe_callB (cr_any rfl) rfl ma PyProof.Rows.boot_any (pa_cons
    (pe_lc (own := [("stretch", 3)]) (g := gName 3) (tt := tYes) (te := tAndV (tOp (rI0 fun i j => V.bl (decide (i ≤ j))) (tVar 1) (tOp (rIxT K) (tVar 3) (tC (.int 0)))) (tOp (rI0 fun i j => V.bl (decide (i ≤ j))) (tOp (rIxT K) (tVar 3) (tC (.int 1))) (tVar 2))) rfl sc.nd (pi_list (pv 0)) (blkOk_by (N := ["stretches", "begin", "end", "stretch"]) (sc := C8.fnScope sSomeFits) (by decide +kernel))
      (fun _ _ _ _ _ => pg_name (i := 3) sc.nd rfl (Or.inl rfl)) (fun _ _ _ _ _ => pts_nil) (fun _ _ _ _ _ => pe_and (pe_cmpR op_le (pv 1) (pe_ix ix_tup (pv 3) pe_int (fun _ _ => rfl)) (nomark _)) (pe_one (pe_cmpR op_le (pe_ix ix_tup (pv 3) pe_int (fun _ _ => rfl)) (pv 2) (nomark _))))) pa_nil))), ?_⟩)
  · obtain ⟨a, l, b, e, rfl, _⟩ := h
    rfl
  · obtain ⟨a, l, b, e, rfl, ⟨xs, hxs, hst⟩, hn, q⟩ := h
    have e0 : (l.any fun s => Rh06.isIn s (b, e)) = (l.map fun s => Rh06.isIn s (b, e)).any id := by rw [List.any_map]; rfl
    rw [e0] at q
    refine s_ret (ev_anyL (bs := l.map fun s => Rh06.isIn s (b, e)) ?_) q
    rw [← any_given hst]
    refine el_lcL _ _ (ev_var rfl) hxs (by rw [hst.len]; omega) (fun _ => rfl) (fun i y H1 e1 hi H2 e2 Q k => k H2 (Ex.refl H2)) fun i y H1 e1 hi _ => ?_
    obtain ⟨t, ht, hy⟩ := hst.get hi
    rw [List.getD_eq_getElem?_getD, ht]
    refine ev_is (ev_andV (ev_op (ev_var rfl) (ev_st0 (ev_var rfl) (hy.ex e1)) rv_I0) fun _ => ev_op (ev_st1 (ev_var rfl) (hy.ex e1)) (ev_var rfl) rv_I0) ?_
    unfold Rh06.isIn
    simp only [Int.ofNat_le]
    rfl
end
end Nr

set_option Elab.async false
set_option linter.all false
set_option maxRecDepth 100000
set_option maxHeartbeats 2000000
namespace Nr
open PySem PySem.Spec PyProof.Rows L2 Evl
open Rh06 (Stretch)
theorem nums_intsV (t : List Nat) : nums t = intsV (Rh06.ints t) := by
  unfold nums intsV Rh06.ints
  rw [List.map_map]
  rfl
/-- None, or a list of these stretches -/
def OptL (K : PySem.W.Frag) (H : Hp) (o : Option (List Stretch)) (v : V) : Prop := match o with
  | none => v = .non
  | some l => ∃ a, v = .ref a ∧ LAt K H a l
theorem OptL.ex {K : PySem.W.Frag} {H H' : Hp} {o : Option (List Stretch)} {v : V} (e : Ex H H') (h : OptL K H o v) : OptL K H' o v := by
  cases o with
  | none => exact h
  | some l =>
    obtain ⟨a, z, h⟩ := h
    exact ⟨a, z, h.ex e⟩
def rowOf (d : Rh06.St) (s : Nat) : Option (List Stretch) := (Rh06.get d s).map fun q => Rh06.row d.text q
section
variable {K : PySem.W.Frag} {σ : L2.St} {H H' : Hp} {ta tb te : TE} {x y v : V} {D : Ends} {tz : TS}
/-- state.stretches_of(n) -/
theorem ep_of {CN CQ st : Addr} {own : List Addr} {d : Rh06.St} {ts : List Rh06.Q} {t : TA} {E : XK} {s : Nat} (hd : DeskAt CN CQ H st own d ts) (ho : Ev ta σ H (.ref st)) (h : EvA t σ H [.int (s : Int)]) : EvP (tMeth CN "stretches_of" (spOf CN CQ) [] E ta t) σ H fun H v => OptL K H (rowOf d s) v := fun H1 e Q q => by
  obtain ⟨dx, pw, pq, ps, pl, vs, rs, kvs, rfl, p⟩ := id hd
  refine ho H1 e _ fun H2 e2 => ⟨st, dx, _, rfl, (e.trans e2) _ _ p.at_, NF_no (by decide +kernel) (by decide +kernel) (by decide +kernel) (by decide +kernel), h H2 (e.trans e2) _ fun H3 e3 => ?_⟩
  refine ⟨st, _, d, ts, s, rfl, hd.ex ((e.trans e2).trans e3), fun g H4 e4 => q .non H4 ((e2.trans e3).trans e4) ?_, fun qq g a la H4 e4 => q (.ref a) H4 ((e2.trans e3).trans e4) ?_⟩
  · unfold rowOf
    rw [g]
    rfl
  · unfold rowOf
    rw [g]
    exact ⟨a, rfl, (la.ex e4).at⟩
theorem ev_notInP {s : Stretch} {l : List Stretch} (h1 : Ev ta σ H x) (h2 : EvP tb σ H fun H v => OptL K H (some l) v) (hx : IsSt H x s) : Ev (tOp (rNotInD K) ta tb) σ H (.bl (!l.contains s)) := fun H1 e Q q =>
  h1 H1 e _ fun H2 e2 => h2 H2 (e.trans e2) _ fun v H3 e3 ⟨a, z, xs, h3, h4⟩ => by
    subst z
    have e13 := (e.trans e2).trans e3
    refine ⟨stD s, l.map stD, (hx.ex e13).dp, .lst h3 h4.dp, stD_shaped s, stDs_shaped l, ?_⟩
    rw [stDs_any]
    exact q H3 (e2.trans e3)
/-- f(a, b, a new tuple) -/
theorem s_retCU {sp : Sp} {E : XK} {us : List V} (h1 : Ev ta σ H x) (h2 : Ev tb σ H y) (h3 : EvU te σ H us) (hs : ∀ p H1, Ex H H1 → H1 p = some (.tup us) → sp [x, y, .ref p] H1 D.rt E) : tRet (tCall sp [] E (tCons ta (tCons tb (tCons te tNil)))) D σ H :=
  h1 H (Ex.refl H) _ fun H1 e1 => h2 H1 e1 _ fun H2 e2 => h3 H2 (e1.trans e2) _ fun p H3 _ e3 hp => hs p H3 ((e1.trans e2).trans e3) hp
/-- f(a, b), of b only R known -/
theorem s_retCP {sp : Sp} {E : XK} {R : Hp → V → Prop} (h1 : Ev ta σ H x) (h2 : EvP tb σ H R) (hs : ∀ v H1, Ex H H1 → R H1 v → sp [x, v] H1 D.rt E) : tRet (tCall sp [] E (tCons ta (tCons tb tNil))) D σ H :=
  h1 H (Ex.refl H) _ fun H1 e1 => h2 H1 e1 _ fun v H2 e2 r => hs v H2 (e1.trans e2) r
/-- [f(..)] and the like: a new list of one whole number -/
theorem s_retOne {z : Int} (h : Ev te σ H (.int z)) (k : RetI [z] H D.rt) : tRet (tLst (tCons te tNil)) D σ H := s_retL (el_lst (ea_cons h ea_nil) (by show 1 ≤ 100000; decide)) k
end
section
variable {P : Program} {w : World} {K : PySem.W.Frag} {mg : Str → Option Value} {base : Heap} {CN CQ : Addr}
/-! ### shown -/
def shownOf (d : Rh06.St) (q : Rh06.Q) (y : Stretch) : List Int := if (Rh06.row d.text q).contains y = false then [-7] else ((Rh06.shows d.text q y).length : Int) :: Rh06.ints (Rh06.shows d.text q y)
def spShown (CN CQ : Addr) : Sp := fun vs H Q _ => ∃ (st : Addr) (own : List Addr) (d : Rh06.St) (ts : List Rh06.Q) (s : Nat) (x : V) (y : Stretch) (q : Rh06.Q), vs = [.ref st, .int (s : Int), x] ∧ DeskAt CN CQ H st own d ts ∧ ts.length ≤ 500 ∧ Rh06.get d s = some q ∧ IsSt H x y ∧ RetI (shownOf d q y) H Q
theorem c_shown {f : Addr} {fd : FuncData} (D : C8.Def K mg "shown" sShown f fd) (b : Binds K fd ["state", "number", "stretch"] []) (OF : C8.Met P w K mg base 1 CN "stretches_of" (spOf CN CQ) []) (MK : C8.Met P w K mg base 5 CN "places_that_make" (spMake CN CQ) []) (ml : mg "len" = none) (n1 : Num mg "NOT_A_STRETCH" (-7)) : C8.Cal P w K mg base 6 "shown" (spShown CN CQ) [] := by
  have sc : FnScope ["state", "number", "stretch", "places"] ["state", "number", "stretch"] (C8.fnScope sShown) := C8.fnScope_by (by decide +kernel)
  refine C8.cal0 D b .nil sc (fun vs H Q E h => ?_) (fun cdv A outer s H vs Q E hr h => ⟨_,
    pss_cons (ps_if (pt_cmpR (op_notInD (hu65 hr)) (pv 2) (C8.pe_mt OF hr (by decide) (pv 0) (pa_cons (pv 1) pa_nil)) rfl) (pss_one (ps_ret (pe_lst (pa_cons (C8.pe_gc rfl n1) pa_nil)))) pss_nil)
    (pss_cons (ps_set (i := 3) sc.nd rfl (Or.inl rfl) (C8.pe_mt MK hr (by decide) (pv 0) (pa_cons (pv 1) (pa_cons (pv 2) pa_nil))))
    (pss_one (ps_ret (pe_op op_cat (pe_lst (pa_cons (pe_callB call_len_seq rfl ml PySem.boot_len (pa_cons (pv 3) pa_nil)) pa_nil)) (pv 3))))), ?_⟩)
  · obtain ⟨st, own, d, ts, s, x, y, q, rfl, _⟩ := h
    rfl
  · obtain ⟨st, own, d, ts, s, x, y, q, rfl, hd, htn, gq, hx, k⟩ := h
    have ro : rowOf d s = some (Rh06.row d.text q) := by unfold rowOf; rw [gq]; rfl
    have ep := ep_of (K := K) (E := fun _ _ _ => False) (σ := [some (.ref st), some (.int (s : Int)), some x, none]) (ta := tVar 0) (t := tCons (tVar 1) tNil) hd (ev_var rfl) (ea_cons (ev_var rfl) ea_nil)
    rw [ro] at ep
    unfold shownOf at k
    refine q_when (b := !(Rh06.row d.text q).contains y) (et_test (ev_notInP (ev_var rfl) ep hx)) (fun c H1 e1 => ?_) (fun c H1 e1 => ?_)
    · rw [if_pos (by simpa using c)] at k
      exact s_retOne ev_c (k.back e1)
    · have c' : (Rh06.row d.text q).contains y = true := by simpa using c
      rw [if_neg (by rw [c']; decide)] at k
      obtain ⟨dx, pw, pq, ps, pl, vs, rs, kvs, rfl, p⟩ := id hd
      have ev : EvL (tMeth CN "places_that_make" (spMake CN CQ) [] (fun _ _ _ => False) (tVar 0) (tCons (tVar 1) (tCons (tVar 2) tNil))) [some (.ref st), some (.int (s : Int)), some x, none] H1 (nums (Rh06.shows d.text q y)) := fun H2 e2 Q2 q2 =>
        (ev_var rfl : Ev (tVar 0) [some (.ref st), some (.int (s : Int)), some x, none] H1 (.ref st)) H2 e2 _ fun H3 e3 => ⟨st, dx, _, rfl, ((e1.trans e2).trans e3) _ _ p.at_, NF_no (by decide +kernel) (by decide +kernel) (by decide +kernel) (by decide +kernel),
          (ea_cons (ev_var rfl) (ea_cons (ev_var rfl) ea_nil) : EvA (tCons (tVar 1) (tCons (tVar 2) tNil)) [some (.ref st), some (.int (s : Int)), some x, none] H1 [.int (s : Int), x]) H3 (e2.trans e3) _ fun H4 e4 =>
            ⟨st, _, d, ts, s, x, y, q, rfl, hd.ex (((e1.trans e2).trans e3).trans e4), htn, gq, hx.ex (((e1.trans e2).trans e3).trans e4), by simpa using c', fun p H5 np e5 hp => q2 p H5 (fresh_back (e3.trans e4) np) ((e3.trans e4).trans e5) hp⟩⟩
      refine q_asgL ev fun pn H2 np e2 hp => ?_
      have few : (Rh06.shows d.text q y).length ≤ 60 := by
        have h1 : (Rh06.shows d.text q y).length ≤ d.text.length - 0 := Ns.Up.len (Ns.shows_up d.text q y) fun z mz => by
          have := Ns.shows_in d.text q y (by simpa using c') z mz
          omega
        have := p.few
        omega
      refine s_retL (el_catN (xs := [.int ((Rh06.shows d.text q y).length : Int)]) (el_lst (ea_cons (ev_is (ev_len (K := K) (ev_var rfl) (sq_of hp)) (by rw [nums_len])) ea_nil) (by show 1 ≤ 100000; decide)) (ev_var rfl) hp (by rw [nums_len]; show 1 + _ ≤ _; omega)) fun pr H3 npr e3 hpr => ?_
      refine k pr H3 (fresh_back (e1.trans e2) npr) ((e1.trans e2).trans e3) ?_
      rw [hpr, nums_intsV]
      rfl
/-! ### compared -/
def comparedOf (l : List Stretch) (o : Option (List Stretch)) : List Int := match o with
  | none => [-2]
  | some r => [if l = r then 1 else 0]
def spCompared (K : PySem.W.Frag) : Sp := fun vs H Q _ => ∃ (a : Addr) (l : List Stretch) (y : V) (o : Option (List Stretch)), vs = [.ref a, y] ∧ LAt K H a l ∧ OptL K H o y ∧ RetI (comparedOf l o) H Q
theorem c_compared {f : Addr} {fd : FuncData} (D : C8.Def K mg "compared" sCompared f fd) (b : Binds K fd ["stretches", "others"] []) (n1 : Num mg "NOT_LAID" (-2)) : C8.Cal P w K mg base 1 "compared" (spCompared K) [] := by
  have sc : FnScope ["stretches", "others"] ["stretches", "others"] (C8.fnScope sCompared) := C8.fnScope_by (by decide +kernel)
  refine C8.cal0 D b .nil sc (fun vs H Q E h => ?_) (fun cdv A outer s H vs Q E hr h => ⟨_,
    pss_cons (ps_if (pt_cmp (pc_isN (pv 1))) (pss_one (ps_ret (pe_lst (pa_cons (C8.pe_gc rfl n1) pa_nil)))) pss_nil)
    (pss_one (ps_ret (pe_lst (pa_cons (pe_ifExp (pt_cmpR (op_eqD hr.units) (pv 0) (pv 1) (nomark _)) pe_int pe_int) pa_nil)))), ?_⟩)
  · obtain ⟨a, l, y, o, rfl, _⟩ := h
    rfl
  · obtain ⟨a, l, y, o, rfl, hl, ho, k⟩ := h
    cases o with
    | none =>
      have z : y = .non := ho
      subst z
      refine q_when (b := true) (et_is (et_B (ev_isN (v := .non) (ev_var rfl))) rfl) (fun _ H1 e1 => ?_) (fun h => nomatch h)
      exact s_retOne ev_c (k.back e1)
    | some r =>
      obtain ⟨bb, rfl, hr'⟩ := ho
      refine q_when (b := false) (et_is (et_B (ev_isN (v := .ref bb) (ev_var rfl))) rfl) (fun h => nomatch h) (fun _ H1 e1 => ?_)
      refine s_retOne (z := if l = r then 1 else 0) (ev_if (et_test (ev_eqSt (K := K) (ev_var rfl) (ev_var rfl) (hl.ex e1) (hr'.ex e1))) (fun c => ?_) (fun c => ?_)) (k.back e1)
      · rw [if_pos (of_decide_eq_true c)]
        exact ev_c
      · rw [if_neg (of_decide_eq_false c)]
        exact ev_c
/-! ### asked -/
/-- the calls that ask, with their numbers -/
inductive AskIs : Nat → List Nat → Rh06.Call → Prop
  | row (s : Nat) : AskIs 15 [s] (.row s)
  | at_ (s p : Nat) : AskIs 16 [s, p] (.at_ s p)
  | worth (s : Nat) : AskIs 17 [s] (.worth s)
  | shows (s a b : Nat) : AskIs 18 [s, a, b] (.shows s a b)
  | best (s n : Nat) : AskIs 19 [s, n] (.best s n)
  | alike (i j : Nat) : AskIs 20 [i, j] (.alike i j)
  | fits (s a b : Nat) : AskIs 21 [s, a, b] (.fits s a b)
theorem ask_desk {c : Nat} {xs : List Nat} {call : Rh06.Call} (h : AskIs c xs call) (d : Rh06.St) : (Rh06.step d call).1 = d := by cases h <;> rfl
theorem ask_first {c : Nat} {xs : List Nat} {call : Rh06.Call} (h : AskIs c xs call) (d : Rh06.St) : ∃ s r, xs = s :: r ∧ (Rh06.get d s = none → (Rh06.step d call).2 = [-2]) := by
  cases h with
  | row s => exact ⟨s, [], rfl, fun g => by show (match Rh06.get d s with | some q => Rh06.told (Rh06.row d.text q) | none => [-2]) = _; rw [g]⟩
  | at_ s p => exact ⟨s, [p], rfl, fun g => by simp only [Rh06.step, g]⟩
  | worth s => exact ⟨s, [], rfl, fun g => by simp only [Rh06.step, g]⟩
  | shows s a b => exact ⟨s, [a, b], rfl, fun g => by simp only [Rh06.step, g]⟩
  | best s n => exact ⟨s, [n], rfl, fun g => by simp only [Rh06.step, g]⟩
  | alike i j => exact ⟨i, [j], rfl, fun g => by simp only [Rh06.step, g]⟩
  | fits s a b => exact ⟨s, [a, b], rfl, fun g => by simp only [Rh06.step, g]⟩
structure Asks (P : Program) (w : World) (K : PySem.W.Frag) (mg : Str → Option Value) (base : Heap) (CN CQ : Addr) : Prop where
  of_ : C8.Met P w K mg base 1 CN "stretches_of" (spOf CN CQ) []
  counted : C8.Cal P w K mg base 1 "counted" (spCounted K) []
  first : C8.Cal P w K mg base 2 "first_counted" (spFirstCounted K) []
  worth : C8.Cal P w K mg base 2 "worth_of" (spWorth K) []
  narrow : C8.Cal P w K mg base 4 "narrowest" (spNarrowest K) []
  fits : C8.Cal P w K mg base 1 "some_fits" (spFits K) []
  shown : C8.Cal P w K mg base 6 "shown" (spShown CN CQ) []
  compared : C8.Cal P w K mg base 1 "compared" (spCompared K) []
  nN : Num mg "NOT_LAID" (-2)
  nR : Num mg "ROW" 15
  nA : Num mg "AT" 16
  nW : Num mg "WORTH" 17
  nS : Num mg "SHOWS" 18
  nB : Num mg "BEST" 19
  nK : Num mg "ALIKE" 20
def spAsked (CN CQ : Addr) : Sp := fun vs H Q _ => ∃ (st an : Addr) (own : List Addr) (d : Rh06.St) (ts : List Rh06.Q) (c : Nat) (xs : List Nat) (call : Rh06.Call), vs = [.ref st, .int (c : Int), .ref an] ∧ DeskAt CN CQ H st own d ts ∧ ts.length ≤ 500 ∧ H an = some (.lst (nums xs)) ∧ AskIs c xs call ∧ RetI (Rh06.step d call).2 H Q
theorem ev_num {σ : L2.St} {H : Hp} {ta : TE} {a : Addr} {xs : List Nat} {j n : Nat} (h : Ev ta σ H (.ref a)) (hl : H a = some (.lst (nums xs))) (hx : xs[j]? = some n) : Ev (tOp (rIxL K) ta (tC (.int (j : Int)))) σ H (.int (n : Int)) :=
  ev_op h ev_c (rv_ixL (sq_of hl) (atI_nat (by unfold nums; rw [List.getElem?_map, hx]; rfl)))
theorem row_inn {d : Rh06.St} (h : d.text.length ≤ 60) (q : Rh06.Q) : Ns.Inn 1000 (Rh06.row d.text q) := fun s m => by
  have := (Ns.row_ok d.text q).2 s m
  omega
theorem row_few {d : Rh06.St} (h : d.text.length ≤ 60) (q : Rh06.Q) : (Rh06.row d.text q).length ≤ 1000 := by
  have := Ns.row_len d.text q
  omega
theorem c_asked {f : Addr} {fd : FuncData} (D : C8.Def K mg "asked" sAsked f fd) (b : Binds K fd ["state", "call", "numbers"] []) (J : Asks P w K mg base CN CQ) : C8.Cal P w K mg base 7 "asked" (spAsked CN CQ) [] := by
  have sc : FnScope ["state", "call", "numbers", "stretches"] ["state", "call", "numbers"] (C8.fnScope sAsked) := C8.fnScope_by (by decide +kernel)
  refine C8.cal0 D b .nil sc (fun vs H Q E h => ?_) (fun cdv A outer s H vs Q E hr h => ⟨_,
    pss_cons (ps_set (i := 3) sc.nd rfl (Or.inl rfl) (C8.pe_mt J.of_ hr (by decide) (pv 0) (pa_cons (pe_ix ix_list (pv 2) pe_int (fun _ _ => rfl)) pa_nil)))
    (pss_cons (ps_if (pt_cmp (pc_isN (pv 3))) (pss_one (ps_ret (pe_lst (pa_cons (C8.pe_gc rfl J.nN) pa_nil)))) pss_nil)
    (pss_cons (ps_if (pt_cmpR op_eq (pv 1) (C8.pe_gc rfl J.nR) (nomark _)) (pss_one (ps_ret (C8.pe_c J.counted hr (by decide) rfl (pa_cons (pv 3) pa_nil)))) pss_nil)
    (pss_cons (ps_if (pt_cmpR op_eq (pv 1) (C8.pe_gc rfl J.nA) (nomark _)) (pss_one (ps_ret (C8.pe_c J.first hr (by decide) rfl (pa_cons (pv 3) (pa_cons (pe_ix ix_list (pv 2) pe_int (fun _ _ => rfl)) pa_nil))))) pss_nil)
    (pss_cons (ps_if (pt_cmpR op_eq (pv 1) (C8.pe_gc rfl J.nW) (nomark _)) (pss_one (ps_ret (pe_lst (pa_cons (C8.pe_c J.worth hr (by decide) rfl (pa_cons (pv 3) pa_nil)) pa_nil)))) pss_nil)
    (pss_cons (ps_if (pt_cmpR op_eq (pv 1) (C8.pe_gc rfl J.nS) (nomark _)) (pss_one (ps_ret (C8.pe_c J.shown hr (by decide) rfl (pa_cons (pv 0) (pa_cons (pe_ix ix_list (pv 2) pe_int (fun _ _ => rfl)) (pa_cons (pe_tup (pa_cons (pe_ix ix_list (pv 2) pe_int (fun _ _ => rfl)) (pa_cons (pe_ix ix_list (pv 2) pe_int (fun _ _ => rfl)) pa_nil))) pa_nil)))))) pss_nil)
    (pss_cons (ps_if (pt_cmpR op_eq (pv 1) (C8.pe_gc rfl J.nB) (nomark _)) (pss_one (ps_ret (C8.pe_c J.counted hr (by decide) rfl (pa_cons (C8.pe_c J.narrow hr (by decide) rfl (pa_cons (pv 3) (pa_cons (pe_ix ix_list (pv 2) pe_int (fun _ _ => rfl)) pa_nil))) pa_nil)))) pss_nil)
    (pss_cons (ps_if (pt_cmpR op_eq (pv 1) (C8.pe_gc rfl J.nK) (nomark _)) (pss_one (ps_ret (C8.pe_c J.compared hr (by decide) rfl (pa_cons (pv 3) (pa_cons (C8.pe_mt J.of_ hr (by decide) (pv 0) (pa_cons (pe_ix ix_list (pv 2) pe_int (fun _ _ => rfl)) pa_nil)) pa_nil))))) pss_nil)
    (pss_one (ps_ret (pe_lst (pa_cons (pe_ifExp (pt_val (C8.pe_c J.fits hr (by decide) rfl (pa_cons (pv 3) (pa_cons (pe_ix ix_list (pv 2) pe_int (fun _ _ => rfl)) (pa_cons (pe_ix ix_list (pv 2) pe_int (fun _ _ => rfl)) pa_nil))))) pe_int pe_int) pa_nil))))))))))), ?_⟩)
  · obtain ⟨st, an, own, d, ts, c, xs, call, rfl, _⟩ := h
    rfl
  · obtain ⟨st, an, own, d, ts, c, xs, call, rfl, hd, htn, han, hask, k⟩ := h
    have few : d.text.length ≤ 60 := by
      obtain ⟨dx, pw, pq, ps, pl, vs, rs, kvs, rfl, p⟩ := hd
      exact p.few
    obtain ⟨s0, r0, ex, hnone⟩ := ask_first hask d
    refine q_asgP (ep_of (K := K) (s := s0) hd (ev_var rfl) (ea_cons (ev_num (j := 0) (ev_var rfl) han (by rw [ex]; rfl)) ea_nil)) fun v H1 e1 o => ?_
    cases g : Rh06.get d s0 with
    | none =>
      have z : v = .non := by
        unfold rowOf at o
        rw [g] at o
        exact o
      subst z
      rw [hnone g] at k
      refine q_when (b := true) (et_is (et_B (ev_isN (v := .non) (ev_var rfl))) rfl) (fun _ H2 e2 => ?_) (fun h => nomatch h)
      exact s_retOne ev_c (k.back (e1.trans e2))
    | some q =>
      have o' : ∃ a, v = .ref a ∧ LAt K H1 a (Rh06.row d.text q) := by
        unfold rowOf at o
        rw [g] at o
        exact o
      obtain ⟨a, rfl, la⟩ := o'
      refine q_when (b := false) (et_is (et_B (ev_isN (v := .ref a) (ev_var rfl))) rfl) (fun h => nomatch h) (fun _ H2 e2 => ?_)
      have e12 := e1.trans e2
      have la2 := la.ex e2
      have no : ∀ {k n : Nat} {H2 : Hp} {tu tz : TS} {D : Ends} {y : Option V}, k ≠ n → (∀ H3, Ex H2 H3 → tz D [some (.ref st), some (.int (k : Int)), some (.ref an), y] H3) → tSeq (tIfS (tTest (tOp rEq (tVar 1) (tC (.int (n : Int))))) tu tNext) tz D [some (.ref st), some (.int (k : Int)), some (.ref an), y] H2 := fun {k n H2 tu tz D y} hne h =>
        q_when (b := false) (et_is (et_eqN (ev_var rfl)) (decide_eq_false (by omega))) (fun h => nomatch h) (fun _ H3 e3 => h H3 e3)
      have yes : ∀ {k n : Nat} {H2 : Hp} {tu tz : TS} {D : Ends} {y : Option V}, k = n → (∀ H3, Ex H2 H3 → tu { D with nx := tz D } [some (.ref st), some (.int (k : Int)), some (.ref an), y] H3) → tSeq (tIfS (tTest (tOp rEq (tVar 1) (tC (.int (n : Int))))) tu tNext) tz D [some (.ref st), some (.int (k : Int)), some (.ref an), y] H2 := fun {k n H2 tu tz D y} hne h =>
        q_when (b := true) (et_is (et_eqN (ev_var rfl)) (decide_eq_true (by omega))) (fun _ H3 e3 => h H3 e3) (fun h => nomatch h)
      cases hask with
      | row s =>
        cases ex
        have st1 : (Rh06.step d (.row s0)).2 = Rh06.told (Rh06.row d.text q) := by simp only [Rh06.step, g]
        rw [st1] at k
        refine yes (n := 15) rfl fun H3 e3 => ?_
        exact s_retC (ea_cons (ev_var rfl) ea_nil) fun H4 e4 => ⟨a, _, rfl, la2.ex (e3.trans e4), row_few few q, k.back ((e12.trans e3).trans e4)⟩
      | at_ s p =>
        cases ex
        have st1 : (Rh06.step d (.at_ s0 p)).2 = Rh06.told (Ns.firstFrom (Rh06.row d.text q) p).toList := by
          have e0 : Rh06.at_ d.text q p = Ns.firstFrom (Rh06.row d.text q) p := rfl
          simp only [Rh06.step, g, e0]
          cases Ns.firstFrom (Rh06.row d.text q) p <;> rfl
        rw [st1] at k
        refine no (n := 15) (by decide) fun H3 e3 => yes (n := 16) rfl fun H4 e4 => ?_
        have e14 := (e12.trans e3).trans e4
        exact s_retC (ea_cons (ev_var rfl) (ea_cons (ev_num (j := 1) (ev_var rfl) (e14 _ _ han) rfl) ea_nil)) fun H5 e5 => ⟨a, _, p, rfl, la2.ex ((e3.trans e4).trans e5), k.back (e14.trans e5)⟩
      | worth s =>
        cases ex
        have st1 : (Rh06.step d (.worth s0)).2 = [((worthN (Rh06.row d.text q) : Nat) : Int)] := by
          simp only [Rh06.step, g]
          rfl
        rw [st1] at k
        refine no (n := 15) (by decide) fun H3 e3 => no (n := 16) (by decide) fun H4 e4 => yes (n := 17) rfl fun H5 e5 => ?_
        have e25 := (e3.trans e4).trans e5
        exact s_retOne (ev_call (ea_cons (ev_var rfl) ea_nil) fun H6 e6 Q6 k6 E6 => ⟨a, _, rfl, la2.ex (e25.trans e6), row_few few q, row_inn few q, k6⟩) (k.back (e12.trans e25))
      | shows s x y =>
        cases ex
        have st1 : (Rh06.step d (.shows s0 x y)).2 = shownOf d q (x, y) := by
          simp only [Rh06.step, g]
          rfl
        rw [st1] at k
        refine no (n := 15) (by decide) fun H3 e3 => no (n := 16) (by decide) fun H4 e4 => no (n := 17) (by decide) fun H5 e5 => yes (n := 18) rfl fun H6 e6 => ?_
        have e16 := e12.trans (((e3.trans e4).trans e5).trans e6)
        refine s_retCU (ev_var rfl) (ev_num (j := 0) (ev_var rfl) (e16 _ _ han) rfl) (eu_tup (ea_cons (ev_num (j := 1) (ev_var rfl) (e16 _ _ han) rfl) (ea_cons (ev_num (j := 2) (ev_var rfl) (e16 _ _ han) rfl) ea_nil)) (by show 2 ≤ 100000; decide)) fun pt H7 e7 hpt => ?_
        exact ⟨st, own, d, ts, s0, .ref pt, (x, y), q, rfl, hd.ex (e16.trans e7), htn, g, ⟨pt, rfl, hpt⟩, k.back (e16.trans e7)⟩
      | best s n =>
        cases ex
        have st1 : (Rh06.step d (.best s0 n)).2 = Rh06.told ((Rh06.sorted (Rh06.row d.text q)).take n) := by
          simp only [Rh06.step, g]
          rfl
        rw [st1] at k
        refine no (n := 15) (by decide) fun H3 e3 => no (n := 16) (by decide) fun H4 e4 => no (n := 17) (by decide) fun H5 e5 => no (n := 18) (by decide) fun H6 e6 => yes (n := 19) rfl fun H7 e7 => ?_
        have e27 := (((e3.trans e4).trans e5).trans e6).trans e7
        have e17 := e12.trans e27
        refine s_retCS (l := (Rh06.sorted (Rh06.row d.text q)).take n) (es_call (ea_cons (ev_var rfl) (ea_cons (ev_num (j := 1) (ev_var rfl) (e17 _ _ han) rfl) ea_nil)) fun H8 e8 Q8 k8 E8 => ⟨a, _, n, rfl, la2.ex (e27.trans e8), (Ns.row_ok d.text q).1, row_inn few q, k8⟩) fun pn H8 np e8 hl => ?_
        refine ⟨pn, _, rfl, hl.at, ?_, k.back (e17.trans e8)⟩
        have h1 := row_few few q
        have h2 := (Ns.sorted_nar (Ns.row_ok d.text q).1).2.length_eq
        rw [List.length_take]
        omega
      | alike i j =>
        cases ex
        have st1 : (Rh06.step d (.alike s0 j)).2 = comparedOf (Rh06.row d.text q) (rowOf d j) := by
          unfold rowOf comparedOf
          cases gj : Rh06.get d j with
          | none => simp only [Rh06.step, g, gj]; rfl
          | some qj =>
            simp only [Rh06.step, g, gj]
            show Rh06.ints [Rh06.flag (Rh06.row d.text q == Rh06.row d.text qj)] = _
            unfold Rh06.ints Rh06.flag
            by_cases c : Rh06.row d.text q = Rh06.row d.text qj
            · rw [if_pos (by simpa using c)]
              show [((1 : Nat) : Int)] = [if _ = _ then 1 else 0]
              rw [if_pos c]
              rfl
            · rw [if_neg (by simpa using c)]
              show [((0 : Nat) : Int)] = [if _ = _ then 1 else 0]
              rw [if_neg c]
              rfl
        rw [st1] at k
        refine no (n := 15) (by decide) fun H3 e3 => no (n := 16) (by decide) fun H4 e4 => no (n := 17) (by decide) fun H5 e5 => no (n := 18) (by decide) fun H6 e6 => no (n := 19) (by decide) fun H7 e7 => yes (n := 20) rfl fun H8 e8 => ?_
        have e28 := ((((e3.trans e4).trans e5).trans e6).trans e7).trans e8
        have e18 := e12.trans e28
        refine s_retCP (ev_var rfl) (ep_of (K := K) (s := j) (hd.ex e18) (ev_var rfl) (ea_cons (ev_num (j := 1) (ev_var rfl) (e18 _ _ han) rfl) ea_nil)) fun v H9 e9 o => ?_
        exact ⟨a, _, v, _, rfl, la2.ex (e28.trans e9), o, k.back (e18.trans e9)⟩
      | fits s x y =>
        cases ex
        have st1 : (Rh06.step d (.fits s0 x y)).2 = [((Rh06.flag ((Rh06.row d.text q).any fun z => Rh06.isIn z (x, y)) : Nat) : Int)] := by
          simp only [Rh06.step, g]
          rfl
        rw [st1] at k
        refine no (n := 15) (by decide) fun H3 e3 => no (n := 16) (by decide) fun H4 e4 => no (n := 17) (by decide) fun H5 e5 => no (n := 18) (by decide) fun H6 e6 => no (n := 19) (by decide) fun H7 e7 => no (n := 20) (by decide) fun H8 e8 => ?_
        have e28 := ((((e3.trans e4).trans e5).trans e6).trans e7).trans e8
        have e18 := e12.trans e28
        refine s_retOne (ev_if (et_B (ev_call (ea_cons (ev_var rfl) (ea_cons (ev_num (j := 1) (ev_var rfl) (e18 _ _ han) rfl) (ea_cons (ev_num (j := 2) (ev_var rfl) (e18 _ _ han) rfl) ea_nil))) fun H9 e9 Q9 k9 E9 => ⟨a, _, x, y, rfl, la2.ex (e28.trans e9), row_few few q, k9⟩)) (fun c => ?_) (fun c => ?_)) (k.back e18)
        · rw [c]
          exact ev_c
        · rw [c]
          exact ev_c
end
end Nr

set_option Elab.async false
set_option linter.all false
set_option maxRecDepth 100000
set_option maxHeartbeats 2000000
namespace Nr
open PySem PySem.Spec PyProof.Rows L2 Evl
open Rh06 (Stretch)
theorem cut_tail (x : V) (xs : List V) : cutV (x :: xs) (some 1) none = xs := by
  have e : cutV (x :: xs) (some ((1 : Nat) : Int)) none = xs := by
    unfold cutV
    rw [HT.sIx_nat, HT.sIx_none, List.length_cons, Nat.min_eq_left (by omega)]
    show xs.take (xs.length + 1 - 1) = xs
    exact List.take_of_length_le (by omega)
  exact e
/-- the calls about the text, with their numbers -/
inductive TextIs : Nat → List Nat → Rh06.Call → Prop
  | text (t : List Nat) : TextIs 0 (t.length :: t) (.text t)
  | add (t : List Nat) : TextIs 1 (t.length :: t) (.add t)
  | cut (n : Nat) : TextIs 2 [n] (.cut n)
/-- the calls that lay a question -/
inductive LaidIs : Nat → List Nat → Rh06.Call → Prop
  | word (s w : Nat) : LaidIs 3 [s, w] (.word s w)
  | join (k s i j : Nat) : 4 ≤ k → k ≤ 12 → LaidIs k [s, i, j] (.join (k - 4) s i j)
  | bound (k s i n : Nat) : k = 13 ∨ k = 14 → LaidIs k [s, i, n] (bcall k s i n)
def spTextCh (CN CQ : Addr) : Sp := fun vs H Q _ => ∃ (st an : Addr) (own : List Addr) (d : Rh06.St) (ts : List Rh06.Q) (c : Nat) (xs : List Nat) (call : Rh06.Call), vs = [.ref st, .int (c : Int), .ref an] ∧ DeskAt CN CQ H st own d ts ∧ ts.length ≤ 500 ∧ H an = some (.lst (nums xs)) ∧ xs.length ≤ 4000 ∧ TextIs c xs call ∧ After CN CQ st own ts H (Rh06.step d call) Q
def spQLaid (CN CQ : Addr) : Sp := fun vs H Q _ => ∃ (st an : Addr) (own : List Addr) (d : Rh06.St) (ts : List Rh06.Q) (c : Nat) (xs : List Nat) (call : Rh06.Call), vs = [.ref st, .int (c : Int), .ref an] ∧ DeskAt CN CQ H st own d ts ∧ ts.length ≤ 500 ∧ H an = some (.lst (nums xs)) ∧ LaidIs c xs call ∧ After CN CQ st own ts H (Rh06.step d call) Q
theorem After.ex {CN CQ st : Addr} {own : List Addr} {ts : List Rh06.Q} {H H1 : Hp} {r : Rh06.St × List Int} {Q : VK} (k : After CN CQ st own ts H r Q) (e : Ex H H1) : After CN CQ st own ts H1 r Q := fun H' own' ts' z h1 h2 h3 h4 => k H' own' ts' z h1 h2 h3 (h4.ex e)
section
variable {P : Program} {w : World} {K : PySem.W.Frag} {mg : Str → Option Value} {base : Heap} {CN CQ : Addr}
/-- return [f(..)] -/
theorem s_retLC {σ : L2.St} {H : Hp} {sp : Sp} {vs : List V} {E : XK} {t : TA} {D : Ends} (h : EvA t σ H vs) (hs : ∀ H1, Ex H H1 → ∀ Q' : VK, (∀ v H2, Q' v H2 = ([v].length ≤ sizeLine ∧ ∀ p, H2 p = none → D.rt (.ref p) (upd H2 p (.lst [v])))) → sp (vs ++ []) H1 Q' E) : tRet (tLst (tCons (tCall sp [] E t) tNil)) D σ H :=
  h H (Ex.refl H) _ fun H1 e1 => hs H1 e1 _ fun _ _ => rfl
theorem DeskAt.at_ {H : Hp} {st : Addr} {own : List Addr} {d : Rh06.St} {ts : List Rh06.Q} (h : DeskAt CN CQ H st own d ts) : ∃ dx pw pq ps pl, H st = some (.ins CN dx (NF pw pq ps pl)) := by
  obtain ⟨dx, pw, pq, ps, pl, vs, rs, kvs, rfl, p⟩ := h
  exact ⟨dx, pw, pq, ps, pl, p.at_⟩
theorem c_textChanged {f : Addr} {fd : FuncData} (D : C8.Def K mg "text_changed" sTextChanged f fd) (b : Binds K fd ["state", "call", "numbers"] []) (TT : C8.Met P w K mg base 9 CN "take_text" (spTake CN CQ) []) (AD : C8.Met P w K mg base 9 CN "add_words" (spAdd CN CQ) []) (CU : C8.Met P w K mg base 9 CN "cut_text" (spCut CN CQ) []) (nT : Num mg "TEXT" 0) (nA : Num mg "ADD" 1) :
    C8.Cal P w K mg base 10 "text_changed" (spTextCh CN CQ) [] := by
  have sc : FnScope ["state", "call", "numbers"] ["state", "call", "numbers"] (C8.fnScope sTextChanged) := C8.fnScope_by (by decide +kernel)
  refine C8.cal0 D b .nil sc (fun vs H Q E h => ?_) (fun cdv A outer s H vs Q E hr h => ⟨_,
    pss_cons (ps_if (pt_cmpR op_eq (pv 1) (C8.pe_gc rfl nT) (nomark _)) (pss_one (ps_ret (C8.pe_mt TT hr (by decide) (pv 0) (pa_cons (pe_slice sl_list (pv 2) (po_some pe_int) po_none) pa_nil)))) pss_nil)
    (pss_cons (ps_if (pt_cmpR op_eq (pv 1) (C8.pe_gc rfl nA) (nomark _)) (pss_one (ps_ret (C8.pe_mt AD hr (by decide) (pv 0) (pa_cons (pe_slice sl_list (pv 2) (po_some pe_int) po_none) pa_nil)))) pss_nil)
    (pss_one (ps_ret (C8.pe_mt CU hr (by decide) (pv 0) (pa_cons (pe_ix ix_list (pv 2) pe_int (fun _ _ => rfl)) pa_nil))))), ?_⟩)
  · obtain ⟨st, an, own, d, ts, c, xs, call, rfl, _⟩ := h
    rfl
  · obtain ⟨st, an, own, d, ts, c, xs, call, rfl, hd, htn, han, hxl, hc, k⟩ := h
    obtain ⟨dx, pw, pq, ps, pl, hst⟩ := hd.at_
    have nom : ∀ {m : Str}, (m == ("words" : Str)) = false → (m == ("questions" : Str)) = false → (m == ("stretches" : Str)) = false → (m == ("laid" : Str)) = false → (NF pw pq ps pl).lookup m = none := fun a b c d => NF_no a b c d
    cases hc with
    | text t =>
      refine q_when (b := true) (et_is (et_eqN (k := 0) (ev_var rfl)) rfl) (fun _ H1 e1 => ?_) (fun h => nomatch h)
      refine s_retML (ev_var rfl) (e1 _ _ hst) (nom (by decide +kernel) (by decide +kernel) (by decide +kernel) (by decide +kernel)) (el_sl (K := K) (ev_var rfl) (eo_some ev_c) eo_none (sq_of (e1 _ _ han))) fun pn H2 np e2 hp => ?_
      rw [show nums (t.length :: t) = .int ((t.length : Nat) : Int) :: nums t from rfl, cut_tail] at hp
      rw [List.length_cons] at hxl
      exact ⟨st, pn, own, d, ts, t, rfl, hd.ex (e1.trans e2), htn, hp, by omega, (hd.ex e1).fresh np, k.ex (e1.trans e2)⟩
    | add t =>
      refine q_when (b := false) (et_is (et_eqN (k := 1) (ev_var rfl)) rfl) (fun h => nomatch h) (fun _ H0 e0 => ?_)
      refine q_when (b := true) (et_is (et_eqN (k := 1) (ev_var rfl)) rfl) (fun _ H1 e1' => ?_) (fun h => nomatch h)
      have e1 := e0.trans e1'
      refine s_retML (ev_var rfl) (e1 _ _ hst) (nom (by decide +kernel) (by decide +kernel) (by decide +kernel) (by decide +kernel)) (el_sl (K := K) (ev_var rfl) (eo_some ev_c) eo_none (sq_of (e1 _ _ han))) fun pn H2 np e2 hp => ?_
      rw [show nums (t.length :: t) = .int ((t.length : Nat) : Int) :: nums t from rfl, cut_tail] at hp
      rw [List.length_cons] at hxl
      exact ⟨st, pn, own, d, ts, t, rfl, hd.ex (e1.trans e2), htn, hp, by omega, (hd.ex e1).fresh np, k.ex (e1.trans e2)⟩
    | cut n =>
      refine q_when (b := false) (et_is (et_eqN (k := 2) (ev_var rfl)) rfl) (fun h => nomatch h) (fun _ H0 e0 => ?_)
      refine q_when (b := false) (et_is (et_eqN (k := 2) (ev_var rfl)) rfl) (fun h => nomatch h) (fun _ H1 e1' => ?_)
      have e1 := e0.trans e1'
      refine s_retM (ev_var rfl) (e1 _ _ hst) (nom (by decide +kernel) (by decide +kernel) (by decide +kernel) (by decide +kernel)) (ea_cons (ev_num (j := 0) (ev_var rfl) (e1 _ _ han) rfl) ea_nil) fun H2 e2 => ?_
      exact ⟨st, own, d, ts, n, rfl, hd.ex (e1.trans e2), htn, k.ex (e1.trans e2)⟩
theorem c_questionLaid {f : Addr} {fd : FuncData} (D : C8.Def K mg "question_laid" sQuestionLaid f fd) (b : Binds K fd ["state", "call", "numbers"] []) (LW : C8.Met P w K mg base 9 CN "lay_word" (spLayWord CN CQ) []) (LB : C8.Met P w K mg base 9 CN "lay_bounded" (spLayBounded CN CQ) []) (LJ : C8.Met P w K mg base 9 CN "lay_joined" (spLayJoined CN CQ) []) (nW : Num mg "WORD" 3) (nI : Num mg "WITHIN" 13) (nF : Num mg "FIRST" 14) :
    C8.Cal P w K mg base 10 "question_laid" (spQLaid CN CQ) [] := by
  have sc : FnScope ["state", "call", "numbers"] ["state", "call", "numbers"] (C8.fnScope sQuestionLaid) := C8.fnScope_by (by decide +kernel)
  refine C8.cal0 D b .nil sc (fun vs H Q E h => ?_) (fun cdv A outer s H vs Q E hr h => ⟨_,
    pss_cons (ps_if (pt_cmpR op_eq (pv 1) (C8.pe_gc rfl nW) (nomark _)) (pss_one (ps_ret (C8.pe_mt LW hr (by decide) (pv 0) (pa_cons (pe_ix ix_list (pv 2) pe_int (fun _ _ => rfl)) (pa_cons (pe_ix ix_list (pv 2) pe_int (fun _ _ => rfl)) pa_nil))))) pss_nil)
    (pss_cons (ps_if (pt_cmpR op_in_seq (pv 1) (pe_tup (pa_cons (C8.pe_gc rfl nI) (pa_cons (C8.pe_gc rfl nF) pa_nil))) rfl) (pss_one (ps_ret (C8.pe_mt LB hr (by decide) (pv 0) (pa_cons (pv 1) (pa_cons (pe_ix ix_list (pv 2) pe_int (fun _ _ => rfl)) (pa_cons (pe_ix ix_list (pv 2) pe_int (fun _ _ => rfl)) (pa_cons (pe_ix ix_list (pv 2) pe_int (fun _ _ => rfl)) pa_nil))))))) pss_nil)
    (pss_one (ps_ret (C8.pe_mt LJ hr (by decide) (pv 0) (pa_cons (pv 1) (pa_cons (pe_ix ix_list (pv 2) pe_int (fun _ _ => rfl)) (pa_cons (pe_ix ix_list (pv 2) pe_int (fun _ _ => rfl)) (pa_cons (pe_ix ix_list (pv 2) pe_int (fun _ _ => rfl)) pa_nil)))))))), ?_⟩)
  · obtain ⟨st, an, own, d, ts, c, xs, call, rfl, _⟩ := h
    rfl
  · obtain ⟨st, an, own, d, ts, c, xs, call, rfl, hd, htn, han, hc, k⟩ := h
    obtain ⟨dx, pw, pq, ps, pl, hst⟩ := hd.at_
    have nom : ∀ {m : Str}, (m == ("words" : Str)) = false → (m == ("questions" : Str)) = false → (m == ("stretches" : Str)) = false → (m == ("laid" : Str)) = false → (NF pw pq ps pl).lookup m = none := fun a b c d => NF_no a b c d
    cases hc with
    | word s wd =>
      refine q_when (b := true) (et_is (et_eqN (k := 3) (ev_var rfl)) rfl) (fun _ H1 e1 => ?_) (fun h => nomatch h)
      refine s_retM (ev_var rfl) (e1 _ _ hst) (nom (by decide +kernel) (by decide +kernel) (by decide +kernel) (by decide +kernel)) (ea_cons (ev_num (j := 0) (ev_var rfl) (e1 _ _ han) rfl) (ea_cons (ev_num (j := 1) (ev_var rfl) (e1 _ _ han) rfl) ea_nil)) fun H2 e2 => ?_
      exact ⟨st, own, d, ts, s, wd, rfl, hd.ex (e1.trans e2), htn, k.ex (e1.trans e2)⟩
    | join _ s i j k4 k12 =>
      refine q_when (b := false) (et_is (et_eqN (ev_var rfl)) (decide_eq_false (by omega))) (fun h => nomatch h) (fun _ H0 e0 => ?_)
      refine q_when (b := false) (et_is (et_inTwo (K := K) (ev_var rfl)) (decide_eq_false (by omega))) (fun h => nomatch h) (fun _ H1 e1' => ?_)
      have e1 := e0.trans e1'
      refine s_retM (ev_var rfl) (e1 _ _ hst) (nom (by decide +kernel) (by decide +kernel) (by decide +kernel) (by decide +kernel)) (ea_cons (ev_var rfl) (ea_cons (ev_num (j := 0) (ev_var rfl) (e1 _ _ han) rfl) (ea_cons (ev_num (j := 1) (ev_var rfl) (e1 _ _ han) rfl) (ea_cons (ev_num (j := 2) (ev_var rfl) (e1 _ _ han) rfl) ea_nil)))) fun H2 e2 => ?_
      exact ⟨st, own, d, ts, c, s, i, j, rfl, k4, k12, hd.ex (e1.trans e2), htn, k.ex (e1.trans e2)⟩
    | bound _ s i n hk =>
      refine q_when (b := false) (et_is (et_eqN (ev_var rfl)) (decide_eq_false (by omega))) (fun h => nomatch h) (fun _ H0 e0 => ?_)
      refine q_when (b := true) (et_is (et_inTwo (K := K) (ev_var rfl)) (decide_eq_true (by omega))) (fun _ H1 e1' => ?_) (fun h => nomatch h)
      have e1 := e0.trans e1'
      refine s_retM (ev_var rfl) (e1 _ _ hst) (nom (by decide +kernel) (by decide +kernel) (by decide +kernel) (by decide +kernel)) (ea_cons (ev_var rfl) (ea_cons (ev_num (j := 0) (ev_var rfl) (e1 _ _ han) rfl) (ea_cons (ev_num (j := 1) (ev_var rfl) (e1 _ _ han) rfl) (ea_cons (ev_num (j := 2) (ev_var rfl) (e1 _ _ han) rfl) ea_nil)))) fun H2 e2 => ?_
      exact ⟨st, own, d, ts, c, s, i, n, rfl, hk, hd.ex (e1.trans e2), htn, k.ex (e1.trans e2)⟩
/-! ### a call of the list, as the specification's call -/
theorem len2 : ∀ {xs : List Nat}, xs.length = 2 → ∃ a b, xs = [a, b]
  | [a, b], _ => ⟨a, b, rfl⟩
theorem len3 : ∀ {xs : List Nat}, xs.length = 3 → ∃ a b c, xs = [a, b, c]
  | [a, b, c], _ => ⟨a, b, c, rfl⟩
theorem call_of {c : Int} {ns w : List Int} (h : CallIs c ns w) (sm : Small (c :: ns)) : ∃ (k : Nat) (xs : List Nat) (call : Rh06.Call), c = (k : Int) ∧ ns = xs.map (fun (n : Nat) => (n : Int)) ∧ (∀ d, Rh06Neutral.step d w = Rh06.step d call) ∧ ((TextIs k xs call ∧ k ≤ 2) ∨ (LaidIs k xs call ∧ 3 ≤ k ∧ k ≤ 14) ∨ (AskIs k xs call ∧ 15 ≤ k)) := by
  obtain ⟨c0, sn⟩ := sm.of_cons
  obtain ⟨xs, e1, e2⟩ := sn.nats
  cases h with
  | row ws hp =>
    have sw : Small ws := fun y m => sn y (List.mem_cons_of_mem _ m)
    obtain ⟨t, e3, e4⟩ := sw.nats
    have lt : ws.length = t.length := by rw [e3, List.length_map]
    rcases hp with rfl | rfl
    · refine ⟨0, t.length :: t, .text t, rfl, by rw [List.map_cons, ← e3, lt], fun d => neutral_step (fun y m => ?_) ?_, .inl ⟨.text t, by omega⟩⟩
      · rcases List.mem_cons.mp m with rfl | m
        · omega
        · exact sw y m
      · rw [List.map_cons, e4]
        rfl
    · refine ⟨1, t.length :: t, .add t, rfl, by rw [List.map_cons, ← e3, lt], fun d => neutral_step (fun y m => ?_) ?_, .inl ⟨.add t, by omega⟩⟩
      · rcases List.mem_cons.mp m with rfl | m
        · omega
        · exact sw y m
      · rw [List.map_cons, e4]
        rfl
  | args _ h1 h2 h3 =>
    have lx : xs.length = Ns.arity c := by rw [← h3, e1, List.length_map]
    obtain ⟨k, rfl⟩ : ∃ k : Nat, c = (k : Int) := ⟨c.toNat, by omega⟩
    have stp : ∀ {call : Rh06.Call}, Rh06Neutral.callIn (k :: xs) = some call → ∀ d, Rh06Neutral.step d ((k : Int) :: ns) = Rh06.step d call := fun {call} hc d => neutral_step sm (by rw [List.map_cons, e2]; exact hc)
    have : k = 2 ∨ k = 3 ∨ k = 4 ∨ k = 5 ∨ k = 6 ∨ k = 7 ∨ k = 8 ∨ k = 9 ∨ k = 10 ∨ k = 11 ∨ k = 12 ∨ k = 13 ∨ k = 14 ∨ k = 15 ∨ k = 16 ∨ k = 17 ∨ k = 18 ∨ k = 19 ∨ k = 20 ∨ k = 21 := by omega
    rcases this with rfl | rfl | rfl | rfl | rfl | rfl | rfl | rfl | rfl | rfl | rfl | rfl | rfl | rfl | rfl | rfl | rfl | rfl | rfl | rfl
    · obtain ⟨a, rfl⟩ := List.length_eq_one_iff.mp (show xs.length = 1 from lx)
      exact ⟨2, [a], _, rfl, e1, stp rfl, .inl ⟨.cut a, by omega⟩⟩
    · obtain ⟨a, b, rfl⟩ := len2 (show xs.length = 2 from lx)
      exact ⟨3, [a, b], _, rfl, e1, stp rfl, .inr (.inl ⟨.word a b, by omega, by omega⟩)⟩
    · obtain ⟨a, b, c, rfl⟩ := len3 (show xs.length = 3 from lx)
      exact ⟨4, [a, b, c], _, rfl, e1, stp rfl, .inr (.inl ⟨.join 4 a b c (by omega) (by omega), by omega, by omega⟩)⟩
    · obtain ⟨a, b, c, rfl⟩ := len3 (show xs.length = 3 from lx)
      exact ⟨5, [a, b, c], _, rfl, e1, stp rfl, .inr (.inl ⟨.join 5 a b c (by omega) (by omega), by omega, by omega⟩)⟩
    · obtain ⟨a, b, c, rfl⟩ := len3 (show xs.length = 3 from lx)
      exact ⟨6, [a, b, c], _, rfl, e1, stp rfl, .inr (.inl ⟨.join 6 a b c (by omega) (by omega), by omega, by omega⟩)⟩
    · obtain ⟨a, b, c, rfl⟩ := len3 (show xs.length = 3 from lx)
      exact ⟨7, [a, b, c], _, rfl, e1, stp rfl, .inr (.inl ⟨.join 7 a b c (by omega) (by omega), by omega, by omega⟩)⟩
    · obtain ⟨a, b, c, rfl⟩ := len3 (show xs.length = 3 from lx)
      exact ⟨8, [a, b, c], _, rfl, e1, stp rfl, .inr (.inl ⟨.join 8 a b c (by omega) (by omega), by omega, by omega⟩)⟩
    · obtain ⟨a, b, c, rfl⟩ := len3 (show xs.length = 3 from lx)
      exact ⟨9, [a, b, c], _, rfl, e1, stp rfl, .inr (.inl ⟨.join 9 a b c (by omega) (by omega), by omega, by omega⟩)⟩
    · obtain ⟨a, b, c, rfl⟩ := len3 (show xs.length = 3 from lx)
      exact ⟨10, [a, b, c], _, rfl, e1, stp rfl, .inr (.inl ⟨.join 10 a b c (by omega) (by omega), by omega, by omega⟩)⟩
    · obtain ⟨a, b, c, rfl⟩ := len3 (show xs.length = 3 from lx)
      exact ⟨11, [a, b, c], _, rfl, e1, stp rfl, .inr (.inl ⟨.join 11 a b c (by omega) (by omega), by omega, by omega⟩)⟩
    · obtain ⟨a, b, c, rfl⟩ := len3 (show xs.length = 3 from lx)
      exact ⟨12, [a, b, c], _, rfl, e1, stp rfl, .inr (.inl ⟨.join 12 a b c (by omega) (by omega), by omega, by omega⟩)⟩
    · obtain ⟨a, b, c, rfl⟩ := len3 (show xs.length = 3 from lx)
      exact ⟨13, [a, b, c], bcall 13 a b c, rfl, e1, stp rfl, .inr (.inl ⟨.bound 13 a b c (by omega), by omega, by omega⟩)⟩
    · obtain ⟨a, b, c, rfl⟩ := len3 (show xs.length = 3 from lx)
      exact ⟨14, [a, b, c], bcall 14 a b c, rfl, e1, stp rfl, .inr (.inl ⟨.bound 14 a b c (by omega), by omega, by omega⟩)⟩
    · obtain ⟨a, rfl⟩ := List.length_eq_one_iff.mp (show xs.length = 1 from lx)
      exact ⟨15, [a], _, rfl, e1, stp rfl, .inr (.inr ⟨.row a, by omega⟩)⟩
    · obtain ⟨a, b, rfl⟩ := len2 (show xs.length = 2 from lx)
      exact ⟨16, [a, b], _, rfl, e1, stp rfl, .inr (.inr ⟨.at_ a b, by omega⟩)⟩
    · obtain ⟨a, rfl⟩ := List.length_eq_one_iff.mp (show xs.length = 1 from lx)
      exact ⟨17, [a], _, rfl, e1, stp rfl, .inr (.inr ⟨.worth a, by omega⟩)⟩
    · obtain ⟨a, b, c, rfl⟩ := len3 (show xs.length = 3 from lx)
      exact ⟨18, [a, b, c], _, rfl, e1, stp rfl, .inr (.inr ⟨.shows a b c, by omega⟩)⟩
    · obtain ⟨a, b, rfl⟩ := len2 (show xs.length = 2 from lx)
      exact ⟨19, [a, b], _, rfl, e1, stp rfl, .inr (.inr ⟨.best a b, by omega⟩)⟩
    · obtain ⟨a, b, rfl⟩ := len2 (show xs.length = 2 from lx)
      exact ⟨20, [a, b], _, rfl, e1, stp rfl, .inr (.inr ⟨.alike a b, by omega⟩)⟩
    · obtain ⟨a, b, c, rfl⟩ := len3 (show xs.length = 3 from lx)
      exact ⟨21, [a, b, c], _, rfl, e1, stp rfl, .inr (.inr ⟨.fits a b c, by omega⟩)⟩
/-! ### answer -/
theorem c_answer {f : Addr} {fd : FuncData} (D : C8.Def K mg "answer" sAnswer f fd) (b : Binds K fd ["state", "call", "numbers"] []) (TC : C8.Cal P w K mg base 10 "text_changed" (spTextCh CN CQ) []) (QL : C8.Cal P w K mg base 10 "question_laid" (spQLaid CN CQ) []) (AS : C8.Cal P w K mg base 7 "asked" (spAsked CN CQ) []) (nC : Num mg "CUT" 2) (nF : Num mg "FIRST" 14) :
    C8.Cal P w K mg base 12 "answer" (spAnswer CN CQ) [] := by
  have sc : FnScope ["state", "call", "numbers"] ["state", "call", "numbers"] (C8.fnScope sAnswer) := C8.fnScope_by (by decide +kernel)
  refine C8.cal0 D b .nil sc (fun vs H Q E h => ?_) (fun cdv A outer s H vs Q E hr h => ⟨_,
    pss_cons (ps_if (pt_cmpR op_le (pv 1) (C8.pe_gc rfl nC) (nomark _)) (pss_one (ps_ret (pe_lst (pa_cons (C8.pe_c TC hr (by decide) rfl (pa_cons (pv 0) (pa_cons (pv 1) (pa_cons (pv 2) pa_nil)))) pa_nil)))) pss_nil)
    (pss_cons (ps_if (pt_cmpR op_le (pv 1) (C8.pe_gc rfl nF) (nomark _)) (pss_one (ps_ret (pe_lst (pa_cons (C8.pe_c QL hr (by decide) rfl (pa_cons (pv 0) (pa_cons (pv 1) (pa_cons (pv 2) pa_nil)))) pa_nil)))) pss_nil)
    (pss_one (ps_ret (C8.pe_c AS hr (by decide) rfl (pa_cons (pv 0) (pa_cons (pv 1) (pa_cons (pv 2) pa_nil))))))), ?_⟩)
  · obtain ⟨st, an, own, d, ts, c, ns, w, rfl, _⟩ := h
    rfl
  · obtain ⟨st, an, own, d, ts, c, ns, wc, rfl, hd, htn, han, hao, hc, sm, hns, hlen, k⟩ := h
    obtain ⟨kk, xs, call, rfl, rfl, hstep, how⟩ := call_of hc sm
    rw [intsV_nat] at han
    rw [List.length_map] at hns
    rw [hstep d] at k
    -- what one number's way gives
    have one : ∀ {H1 : Hp} {Q' : VK}, Ex H H1 → (∀ v H2, Q' v H2 = ([v].length ≤ sizeLine ∧ ∀ p, H2 p = none → Q (.ref p) (upd H2 p (.lst [v])))) → After CN CQ st own ts H1 (Rh06.step d call) Q' := fun {H1 Q'} e1 hQ H' own' ts' z hz h1 h2 h3 => by
      rw [hQ]
      refine ⟨(by show 1 ≤ sizeLine; decide), fun p np => ?_⟩
      have f1 : Frame H H' own own' := h3.ex e1
      have hp0 : p ∉ own' := h1.fresh np
      have hpH : p ∈ own ∨ H p = none := by
        by_cases m : p ∈ own
        · exact .inl m
        · cases hh : H p with
          | none => exact .inr rfl
          | some o => rw [f1.keep p o hh m] at np; cases np
      refine k _ own' ts' p (h1.ex (Ex.new np)) h2 ⟨fun b o hb no => by rw [upd_ne (fun z => by rw [z] at hb no; rw [f1.keep p o hb no] at np; cases np)]; exact f1.keep b o hb no, f1.new⟩ hpH hp0 ?_
      rw [upd_same, hz]
      rfl
    rcases how with ⟨ht, hk⟩ | ⟨hl, h3, h14⟩ | ⟨ha, h15⟩
    · refine q_when (b := true) (et_test (ev_is (ev_op (ev_var rfl) ev_c rv_I0) (by congr 1; exact decide_eq_true (by omega)))) (fun _ H1 e1 => ?_) (fun h => nomatch h)
      refine s_retLC (ea_cons (ev_var rfl) (ea_cons (ev_var rfl) (ea_cons (ev_var rfl) ea_nil))) fun H2 e2 Q2 hQ => ?_
      exact ⟨st, an, own, d, ts, kk, xs, call, rfl, hd.ex (e1.trans e2), by omega, (e1.trans e2) _ _ han, by omega, ht, one (e1.trans e2) hQ⟩
    · refine q_when (b := false) (et_test (ev_is (ev_op (ev_var rfl) ev_c rv_I0) (by congr 1; exact decide_eq_false (by omega)))) (fun h => nomatch h) (fun _ H0 e0 => ?_)
      refine q_when (b := true) (et_test (ev_is (ev_op (ev_var rfl) ev_c rv_I0) (by congr 1; exact decide_eq_true (by omega)))) (fun _ H1 e1' => ?_) (fun h => nomatch h)
      have e1 := e0.trans e1'
      refine s_retLC (ea_cons (ev_var rfl) (ea_cons (ev_var rfl) (ea_cons (ev_var rfl) ea_nil))) fun H2 e2 Q2 hQ => ?_
      exact ⟨st, an, own, d, ts, kk, xs, call, rfl, hd.ex (e1.trans e2), by omega, (e1.trans e2) _ _ han, hl, one (e1.trans e2) hQ⟩
    · refine q_when (b := false) (et_test (ev_is (ev_op (ev_var rfl) ev_c rv_I0) (by congr 1; exact decide_eq_false (by omega)))) (fun h => nomatch h) (fun _ H0 e0 => ?_)
      refine q_when (b := false) (et_test (ev_is (ev_op (ev_var rfl) ev_c rv_I0) (by congr 1; exact decide_eq_false (by omega)))) (fun h => nomatch h) (fun _ H1 e1' => ?_)
      have e1 := e0.trans e1'
      refine s_retC (ea_cons (ev_var rfl) (ea_cons (ev_var rfl) (ea_cons (ev_var rfl) ea_nil))) fun H2 e2 => ?_
      refine ⟨st, an, own, d, ts, kk, xs, call, rfl, hd.ex (e1.trans e2), by omega, (e1.trans e2) _ _ han, ha, fun p H3 np e3 hp => ?_⟩
      have e13 := (e1.trans e2).trans e3
      have npH := fresh_back (e1.trans e2) np
      refine k H3 own ts p (by rw [ask_desk ha]; exact hd.ex e13) (Nat.le_succ _) ⟨fun b o hb _ => e13 _ _ hb, fun b m => .inl m⟩ (.inr npH) (hd.fresh npH) hp
end
end Nr

set_option Elab.async false
set_option linter.all false
set_option maxRecDepth 100000
set_option maxHeartbeats 2000000
namespace Nr
open PySem PySem.Spec PyProof.Rows L2
/-! ### the tuple of how many numbers stand behind -/
def intOf : Value → Option Int
  | .int i _ => some i
  | _ => none
theorem vals_ints : ∀ {us : List Value} {ns : List Int}, us.map intOf = ns.map some → Vals (ns.map V.int) us
  | [], [], _ => .nil
  | [], _ :: _, h => by cases h
  | _ :: _, [], h => by cases h
  | u :: us, n :: ns, h => by
    rw [List.map_cons, List.map_cons] at h
    injection h with h1 h2
    refine .cons ?_ (vals_ints h2)
    cases u <;> simp only [intOf] at h1 <;> cases h1
    exact ⟨_, rfl⟩
def behindNs : List Int := [1, 1, 1, 2, 3, 3, 3, 3, 3, 3, 3, 3, 3, 3, 3, 1, 2, 1, 3, 2, 2, 3]
theorem behind_at {K : PySem.W.Frag} {h : Heap} {mg : Str → Option Value} {a : Addr} {o : Obj} {its : Array Value} {n : Nat} (X : K.In h) (G : h.Ns mainGlobals mg) (h1 : PySem.W.nsIn K mainGlobals "NUMBERS_BEHIND" = some (some (.ref a))) (h2 : K.lookup a = some o) (h3 : o.cls = .type "tuple") (h4 : o.data = .seq its n) (h5 : its.toList.map intOf = behindNs.map some) :
    Behind K mg (behindNs.map V.int) := by
  have v := vals_ints h5
  refine ⟨⟨a, PySem.W.mg_of X G h1, fun H => Or.inr ⟨o, its, n, h2, h3, h4, ?_, v⟩⟩, fun c hc => ?_⟩
  · have := v.length
    rw [List.length_map] at this
    rw [← Array.length_toList, ← this]
    show 22 ≤ sizeLine
    decide
  · have : c = 0 ∨ c = 1 ∨ c = 2 ∨ c = 3 ∨ c = 4 ∨ c = 5 ∨ c = 6 ∨ c = 7 ∨ c = 8 ∨ c = 9 ∨ c = 10 ∨ c = 11 ∨ c = 12 ∨ c = 13 ∨ c = 14 ∨ c = 15 ∨ c = 16 ∨ c = 17 ∨ c = 18 ∨ c = 19 ∨ c = 20 ∨ c = 21 := by omega
    rcases this with rfl | rfl | rfl | rfl | rfl | rfl | rfl | rfl | rfl | rfl | rfl | rfl | rfl | rfl | rfl | rfl | rfl | rfl | rfl | rfl | rfl | rfl <;> rfl
/-- the def that is asked for -/
def AnsAt (K : PySem.W.Frag) (mg : Str → Option Value) (x : Str) (st : Stmt) (ps : List Str) : Prop := ∃ f fd, C8.Def K mg x st f fd ∧ Binds K fd ps [] ∧ ∀ (s : Shared) (us : List Value), us.length = ps.length → BindsTo s fd ⟨us, []⟩ (ps.zip us)
section
variable {K : PySem.W.Frag} {h : Heap} {mg : Str → Option Value}
theorem ans_at {x : Str} {st : Stmt} {ps : List Str} {f : Addr} {oc : Value} {od an : Option Addr} {osl : Array (Option Value)} {kV doc pm cdv ct : Value} (X : K.In h) (G : h.Ns mainGlobals mg) (a : PySem.W.nsIn K mainGlobals x = some (some (.ref f)))
    (l : K.lookup f = some ⟨oc, od, .func (PySem.W.fnOf x x (C8.fnArgs st) (C8.fnBody st) (C8.fnScope st) .none kV doc pm an cdv ct), osl⟩) (c : PySem.W.codeIn K cdv x = true) (k : PySem.W.keepIn K (.ref f) = true)
    (b : ∀ (kV doc pm : Value) (an : Option Addr) (cdv ct : Value) (us : List Value), us.length = ps.length → bindArgs (PySem.W.fnOf x x (C8.fnArgs st) (C8.fnBody st) (C8.fnScope st) .none kV doc pm an cdv ct) ⟨us, []⟩ = pure (ps.zip us)) : AnsAt K mg x st ps := by
  have F : C8.Fun K x x st f _ := ⟨oc, od, .none, kV, doc, pm, an, cdv, ct, osl, rfl, l, c⟩
  exact ⟨f, _, ⟨F, PySem.W.mg_of X G a, k⟩, F.binds rfl b, fun s us hu => .of_eq (b kV doc pm an cdv ct us hu)⟩
/-- what a class has: it is made by its __init__ -/
def MakAt (K : PySem.W.Frag) (C : Addr) (qual : Str) (st : Stmt) (ps : List Str) : Prop := ∃ f fd, Mk K C f ∧ C8.Fun K "__init__" qual st f fd ∧ Binds K fd ps []
theorem mak_at {C : Addr} {qual : Str} {st : Stmt} {ps : List Str} {f : Addr} {oc : Value} {od an : Option Addr} {osl : Array (Option Value)} {kV doc pm cdv ct : Value} (m : PySem.W.makesIn K C = true) (kc : PySem.W.keepIn K (.ref C) = true) (a : PySem.W.findIn K (.ref C) "__init__" = some (some (.ref f))) (i : PySem.W.isFn K (.ref f) = true)
    (l : K.lookup f = some ⟨oc, od, .func (PySem.W.fnOf "__init__" qual (C8.fnArgs st) (C8.fnBody st) (C8.fnScope st) .none kV doc pm an cdv ct), osl⟩) (c : PySem.W.codeIn K cdv qual = true)
    (b : ∀ (kV doc pm : Value) (an : Option Addr) (cdv ct : Value) (us : List Value), us.length = ps.length → bindArgs (PySem.W.fnOf "__init__" qual (C8.fnArgs st) (C8.fnBody st) (C8.fnScope st) .none kV doc pm an cdv ct) ⟨us, []⟩ = pure (ps.zip us)) : MakAt K C qual st ps := by
  have F : C8.Fun K "__init__" qual st f _ := ⟨oc, od, .none, kV, doc, pm, an, cdv, ct, osl, rfl, l, c⟩
  exact ⟨f, _, ⟨m, a, i, kc⟩, F, F.binds rfl b⟩
theorem cls_q {C : Addr} (X : K.In h) (G : h.Ns mainGlobals mg) (a : PySem.W.nsIn K mainGlobals "Question" = some (some (.ref C))) (pg : PySem.W.plainGet K C Str.empty = true) (hd : PySem.W.hasDictIn K C = true) (po : PySem.W.plainOver K C = true) (sa : PySem.W.findIn K (.ref C) "__setattr__" = some (some (.builtin "object.__setattr__")))
    (n1 : PySem.W.findIn K (.ref C) "kind" = some none) (n2 : PySem.W.findIn K (.ref C) "parts" = some none) (n3 : PySem.W.findIn K (.ref C) "number" = some none) (n4 : PySem.W.findIn K (.ref C) "size" = some none) : mg "Question" = some (.ref C) ∧ ClsQ K C :=
  ⟨PySem.W.mg_of X G a, ⟨pg, hd, po, sa⟩, n1, n2, n3, n4⟩
theorem cls_n {C : Addr} (X : K.In h) (G : h.Ns mainGlobals mg) (a : PySem.W.nsIn K mainGlobals "Nearness" = some (some (.ref C))) (pg : PySem.W.plainGet K C Str.empty = true) (hd : PySem.W.hasDictIn K C = true) (po : PySem.W.plainOver K C = true) (sa : PySem.W.findIn K (.ref C) "__setattr__" = some (some (.builtin "object.__setattr__")))
    (n1 : PySem.W.findIn K (.ref C) "words" = some none) (n2 : PySem.W.findIn K (.ref C) "questions" = some none) (n3 : PySem.W.findIn K (.ref C) "stretches" = some none) (n4 : PySem.W.findIn K (.ref C) "laid" = some none) : mg "Nearness" = some (.ref C) ∧ ClsN K C :=
  ⟨PySem.W.mg_of X G a, ⟨pg, hd, po, sa⟩, n1, n2, n3, n4⟩
end
theorem all_mk {P : Program} {w : World} {K : PySem.W.Frag} {mg : Str → Option Value} {fa CQ CN : Addr} (hfa : mg "answers" = some (.ref fa))
    (d0 : DefAt K mg "width" sWidth ["stretch"])
    (d1 : DefAt K mg "lies_in" sLies ["inner", "outer"])
    (d2 : DefAt K mg "share_a_place" sShare ["one", "other"])
    (d3 : DefAt K mg "back_to_front" sBack ["stretch"])
    (d4 : DefAt K mg "least" sLeast ["stretches"])
    (d5 : DefAt K mg "first_from" sFirstFrom ["stretches", "place"])
    (d6 : DefAt K mg "last_by" sLastBy ["stretches", "place"])
    (d7 : DefAt K mg "places_of_word" sPlaces ["words", "word"])
    (d8 : DefAt K mg "either_of" sEither ["left", "right"])
    (d9 : DefAt K mg "order_of" sOrder ["left", "right"])
    (d10 : DefAt K mg "both_of" sBoth ["left", "right"])
    (d11 : DefAt K mg "next_of" sNext ["left", "right"])
    (d12 : DefAt K mg "lies_in_some" sLiesSome ["stretch", "others"])
    (d13 : DefAt K mg "holds_some" sHoldsSome ["stretch", "others"])
    (d14 : DefAt K mg "meets_some" sMeetsSome ["stretch", "others"])
    (d15 : DefAt K mg "inside_of" sInside ["left", "right"])
    (d16 : DefAt K mg "around_of" sAround ["left", "right"])
    (d17 : DefAt K mg "apart_of" sApart ["left", "right"])
    (d18 : DefAt K mg "without_of" sWithout ["left", "right"])
    (d19 : DefAt K mg "outside_of" sOutside ["left", "right"])
    (d20 : DefAt K mg "joined" sJoined ["kind", "left", "right"])
    (d21 : DefAt K mg "bounded" sBounded ["kind", "stretches", "bound"])
    (d22 : DefAt K mg "first_that_lies_in" sFirstIn ["stretches", "outer"])
    (d23 : DefAt K mg "left_maker" sLeftMaker ["kind", "stretch", "left"])
    (d24 : DefAt K mg "right_maker" sRightMaker ["kind", "stretch", "left", "right"])
    (d25 : DefAt K mg "is_word" sIsWord ["number"])
    (d26 : DefAt K mg "is_question" sIsQuestion ["number"])
    (d27 : DefAt K mg "are_words" sAreWords ["numbers"])
    (d28 : DefAt K mg "counted" sCounted ["stretches"])
    (d29 : DefAt K mg "first_counted" sFirstCounted ["stretches", "place"])
    (d30 : DefAt K mg "worth_of" sWorthOf ["stretches"])
    (d31 : DefAt K mg "narrowest" sNarrowest ["stretches", "most"])
    (d32 : DefAt K mg "some_fits" sSomeFits ["stretches", "begin", "end"])
    (d33 : DefAt K mg "shown" sShown ["state", "number", "stretch"])
    (d34 : DefAt K mg "compared" sCompared ["stretches", "others"])
    (d35 : DefAt K mg "asked" sAsked ["state", "call", "numbers"])
    (d36 : DefAt K mg "end_of_call" sEndOfCall ["calls", "start"])
    (d37 : DefAt K mg "text_changed" sTextChanged ["state", "call", "numbers"])
    (d38 : DefAt K mg "question_laid" sQuestionLaid ["state", "call", "numbers"])
    (d39 : DefAt K mg "answer" sAnswer ["state", "call", "numbers"])
    (n0 : Num mg "TEXT" (0))
    (n1 : Num mg "ADD" (1))
    (n2 : Num mg "CUT" (2))
    (n3 : Num mg "WORD" (3))
    (n4 : Num mg "EITHER" (4))
    (n5 : Num mg "ORDER" (5))
    (n6 : Num mg "BOTH" (6))
    (n7 : Num mg "NEXT" (7))
    (n8 : Num mg "INSIDE" (8))
    (n9 : Num mg "AROUND" (9))
    (n10 : Num mg "APART" (10))
    (n11 : Num mg "WITHOUT" (11))
    (n12 : Num mg "WITHIN" (13))
    (n13 : Num mg "FIRST" (14))
    (n14 : Num mg "ROW" (15))
    (n15 : Num mg "AT" (16))
    (n16 : Num mg "WORTH" (17))
    (n17 : Num mg "SHOWS" (18))
    (n18 : Num mg "BEST" (19))
    (n19 : Num mg "ALIKE" (20))
    (n20 : Num mg "HIGHEST_WORD" (30))
    (n21 : Num mg "HIGHEST_QUESTION" (20))
    (n22 : Num mg "HIGHEST_BOUND" (60))
    (n23 : Num mg "MOST_PLACES" (60))
    (n24 : Num mg "MOST_WORDS_IN_A_QUESTION" (64))
    (n25 : Num mg "OUT_OF_BOUNDS" (-1))
    (n26 : Num mg "NOT_LAID" (-2))
    (n27 : Num mg "TOO_MANY" (-5))
    (n28 : Num mg "NOT_A_STRETCH" (-7))
    (n29 : Num mg "WORTH_OF_ONE_PLACE" (5040))
    (z0 : mg "len" = none)
    (z1 : mg "list" = none)
    (z2 : mg "sorted" = none)
    (z3 : mg "reversed" = none)
    (z4 : mg "enumerate" = none)
    (z5 : mg "any" = none)
    (z6 : mg "all" = none)
    (z7 : mg "sum" = none)
    (z8 : mg "min" = none)
    (z9 : mg "max" = none)
    (bh : Behind K mg (behindNs.map V.int))
    (cq : mg "Question" = some (.ref CQ) ∧ ClsQ K CQ) (mq : MakAt K CQ "Question.__init__" sQInit ["self", "kind", "parts", "number", "size"])
    (q0 : MethAt K CQ "stretches_in" "Question.stretches_in" sStretchesIn ["self", "words", "earlier"])
    (q1 : MethAt K CQ "makers" "Question.makers" sMakers ["self", "stretch", "earlier"])
    (cn : mg "Nearness" = some (.ref CN) ∧ ClsN K CN) (mn : MakAt K CN "Nearness.__init__" sNInit ["self"])
    (m0 : MethAt K CN "take_text" "Nearness.take_text" sTakeText ["self", "words"])
    (m1 : MethAt K CN "add_words" "Nearness.add_words" sAddWords ["self", "words"])
    (m2 : MethAt K CN "cut_text" "Nearness.cut_text" sCutText ["self", "most"])
    (m3 : MethAt K CN "change_text" "Nearness.change_text" sChangeText ["self", "words"])
    (m4 : MethAt K CN "lay_word" "Nearness.lay_word" sLayWord ["self", "number", "word"])
    (m5 : MethAt K CN "lay_joined" "Nearness.lay_joined" sLayJoined ["self", "kind", "number", "left", "right"])
    (m6 : MethAt K CN "lay_bounded" "Nearness.lay_bounded" sLayBounded ["self", "kind", "number", "part", "bound"])
    (m7 : MethAt K CN "lay" "Nearness.lay" sLay ["self", "number", "question"])
    (m8 : MethAt K CN "stretches_of" "Nearness.stretches_of" sStretchesOf ["self", "number"])
    (m9 : MethAt K CN "places_that_make" "Nearness.places_that_make" sPlacesMake ["self", "number", "stretch"])
    (an : AnsAt K mg "answers" sAnswers ["calls"]) :
    ∃ fd : FuncData, (∀ (s : Shared) (us : List Value), us.length = (["calls"] : List Str).length → BindsTo s fd ⟨us, []⟩ ((["calls"] : List Str).zip us)) ∧ ∀ base : Heap, K.In base → base.Ns mainGlobals mg → FnOk P w K mg base C8.CX0 13 fa fd ["calls"] (spAnswers K) := by
  obtain ⟨df0, dd0, D0, B0⟩ := d0
  obtain ⟨df1, dd1, D1, B1⟩ := d1
  obtain ⟨df2, dd2, D2, B2⟩ := d2
  obtain ⟨df3, dd3, D3, B3⟩ := d3
  obtain ⟨df4, dd4, D4, B4⟩ := d4
  obtain ⟨df5, dd5, D5, B5⟩ := d5
  obtain ⟨df6, dd6, D6, B6⟩ := d6
  obtain ⟨df7, dd7, D7, B7⟩ := d7
  obtain ⟨df8, dd8, D8, B8⟩ := d8
  obtain ⟨df9, dd9, D9, B9⟩ := d9
  obtain ⟨df10, dd10, D10, B10⟩ := d10
  obtain ⟨df11, dd11, D11, B11⟩ := d11
  obtain ⟨df12, dd12, D12, B12⟩ := d12
  obtain ⟨df13, dd13, D13, B13⟩ := d13
  obtain ⟨df14, dd14, D14, B14⟩ := d14
  obtain ⟨df15, dd15, D15, B15⟩ := d15
  obtain ⟨df16, dd16, D16, B16⟩ := d16
  obtain ⟨df17, dd17, D17, B17⟩ := d17
  obtain ⟨df18, dd18, D18, B18⟩ := d18
  obtain ⟨df19, dd19, D19, B19⟩ := d19
  obtain ⟨df20, dd20, D20, B20⟩ := d20
  obtain ⟨df21, dd21, D21, B21⟩ := d21
  obtain ⟨df22, dd22, D22, B22⟩ := d22
  obtain ⟨df23, dd23, D23, B23⟩ := d23
  obtain ⟨df24, dd24, D24, B24⟩ := d24
  obtain ⟨df25, dd25, D25, B25⟩ := d25
  obtain ⟨df26, dd26, D26, B26⟩ := d26
  obtain ⟨df27, dd27, D27, B27⟩ := d27
  obtain ⟨df28, dd28, D28, B28⟩ := d28
  obtain ⟨df29, dd29, D29, B29⟩ := d29
  obtain ⟨df30, dd30, D30, B30⟩ := d30
  obtain ⟨df31, dd31, D31, B31⟩ := d31
  obtain ⟨df32, dd32, D32, B32⟩ := d32
  obtain ⟨df33, dd33, D33, B33⟩ := d33
  obtain ⟨df34, dd34, D34, B34⟩ := d34
  obtain ⟨df35, dd35, D35, B35⟩ := d35
  obtain ⟨df36, dd36, D36, B36⟩ := d36
  obtain ⟨df37, dd37, D37, B37⟩ := d37
  obtain ⟨df38, dd38, D38, B38⟩ := d38
  obtain ⟨df39, dd39, D39, B39⟩ := d39
  obtain ⟨qf0, qd0, QM0, QF0, QB0⟩ := q0
  obtain ⟨qf1, qd1, QM1, QF1, QB1⟩ := q1
  obtain ⟨mf0, md0, MM0, MF0, MB0⟩ := m0
  obtain ⟨mf1, md1, MM1, MF1, MB1⟩ := m1
  obtain ⟨mf2, md2, MM2, MF2, MB2⟩ := m2
  obtain ⟨mf3, md3, MM3, MF3, MB3⟩ := m3
  obtain ⟨mf4, md4, MM4, MF4, MB4⟩ := m4
  obtain ⟨mf5, md5, MM5, MF5, MB5⟩ := m5
  obtain ⟨mf6, md6, MM6, MF6, MB6⟩ := m6
  obtain ⟨mf7, md7, MM7, MF7, MB7⟩ := m7
  obtain ⟨mf8, md8, MM8, MF8, MB8⟩ := m8
  obtain ⟨mf9, md9, MM9, MF9, MB9⟩ := m9
  obtain ⟨gq, TQ⟩ := cq
  obtain ⟨iq, idq, MQ, FQ, BQ⟩ := mq
  obtain ⟨gn, TN⟩ := cn
  obtain ⟨ine, idn, MN, FN, BN⟩ := mn
  obtain ⟨af, afd, AD, AB, ABT⟩ := an
  have e := hfa.symm.trans AD.mgf
  cases e
  refine ⟨afd, ABT, fun base _ _ => ?_⟩
  have cWidth := c_width (P := P) (w := w) (base := base) D0 B0
  have cLies := c_lies (P := P) (w := w) (base := base) D1 B1
  have cShare := c_share (P := P) (w := w) (base := base) D2 B2
  have cBack := c_back (P := P) (w := w) (base := base) D3 B3
  have cLeast := c_least D4 B4 cBack z2 z1 z3
  have cFF := c_firstFrom (P := P) (w := w) (base := base) D5 B5
  have cLB := c_lastBy (P := P) (w := w) (base := base) D6 B6 z3
  have cPlaces := c_places (P := P) (w := w) (base := base) D7 B7 z4
  have cEither := c_either D8 B8 cLeast
  have cOrder := c_order D9 B9 cLeast cFF
  have cBoth := c_both D10 B10 cLeast cLB z8 z9
  have cNext := c_next D11 B11 cFF
  have cLS := c_liesSome D12 B12 cLies z5
  have cHS := c_holdsSome D13 B13 cLies z5
  have cMS := c_meetsSome D14 B14 cShare z5
  have cInside := c_inside D15 B15 cLS
  have cAround := c_around D16 B16 cHS
  have cApart := c_apart D17 B17 cMS
  have cWithout := c_without D18 B18 cHS
  have cOutside := c_outside D19 B19 cLS
  have cJoined := c_joined D20 B20 ⟨cEither, cOrder, cBoth, cNext, cInside, cAround, cApart, cWithout, cOutside, n4, n5, n6, n7, n8, n9, n10, n11⟩
  have cBounded := c_bounded D21 B21 cWidth n12
  have cFI := c_firstIn D22 B22 cLies
  have mkr : Makes P w K mg base := ⟨cFF, cLB, cFI, n4, n5, n6, n7, n9⟩
  have cLeft := c_left D23 B23 mkr
  have cRight := c_right D24 B24 mkr
  have cIW := c_isWord (P := P) (w := w) (base := base) D25 B25 n20
  have cIQ := c_isQuestion (P := P) (w := w) (base := base) D26 B26 n21
  have cAW := c_areWords D27 B27 cIW z6
  have qInit := m_qinit (P := P) (w := w) (base := base) TQ MQ gq FQ BQ
  have qStr := m_str TQ QM0 QF0 QB0 cPlaces cJoined cBounded n3 n12 n13
  have qMk := m_makers TQ QM1 QF1 QB1 cLeft cRight z0
  have nLay := m_lay TN TQ MM7 MF7 MB7 qStr z0
  have nChange := m_change TN TQ MM3 MF3 MB3 qStr z0 z1
  have nTake := m_take TN MM0 MF0 MB0 nChange cAW z0 n23 n25
  have nAdd := m_add TN MM1 MF1 MB1 nChange cAW z0 n23 n25 n27
  have nCut := m_cut TN MM2 MF2 MB2 nChange
  have nLW := m_layWord TN TQ MM4 MF4 MB4 nLay qInit cIW cIQ n25 n3
  have nLJ := m_layJoined TN TQ MM5 MF5 MB5 nLay qInit cIQ n25 n26 n27 n24
  have nLB := m_layBounded TN TQ MM6 MF6 MB6 nLay qInit cIQ n25 n26 n22
  have nOf := m_of (P := P) (w := w) (base := base) (mg := mg) (CQ := CQ) TN MM8 MF8 MB8
  have nMake := m_make TN TQ MM9 MF9 MB9 qMk z2 n3
  have nInit := m_ninit (P := P) (w := w) (base := base) (mg := mg) (CQ := CQ) TN MN gn FN BN
  have cCounted := c_counted (P := P) (w := w) (base := base) D28 B28 z0
  have cFC := c_firstCounted D29 B29 cFF cCounted
  have cWorth := c_worth D30 B30 cWidth z7 n29
  have cNarrow := c_narrowest D31 B31 cWidth z2
  have cFits := c_fits (P := P) (w := w) (base := base) D32 B32 z5
  have cShown := c_shown D33 B33 nOf nMake z0 n28
  have cCompared := c_compared (P := P) (w := w) (base := base) D34 B34 n26
  have cAsked := c_asked D35 B35 ⟨nOf, cCounted, cFC, cWorth, cNarrow, cFits, cShown, cCompared, n26, n14, n15, n16, n17, n18, n19⟩
  have cEnd := c_end (P := P) (w := w) (base := base) D36 B36 bh n0 n1
  have cText := c_textChanged D37 B37 nTake nAdd nCut n0 n1
  have cLaid := c_questionLaid D38 B38 nLW nLB nLJ n3 n12 n13
  have cAnswer := c_answer D39 B39 cText cLaid cAsked n2 n13
  exact c_answers AD AB nInit cEnd cAnswer z0
end Nr

set_option Elab.async false
set_option linter.all false
open PySem PySem.W PyProof.Rows
set_option maxRecDepth 100000 in
set_option maxHeartbeats 16000000 in
theorem PySem.Challenge.cw_nearstretches_s01_answers_holds : PySem.Challenge.rw_nearstretches_s01_answers.Holds := by
  w_on; k_headS; (case hw => exact ⟨[.list [.int 2, .int 0]], by decide +kernel, by decide +kernel⟩)
  k_fillS
  refine L2.walk_specK (r := PySem.Challenge.rw_nearstretches_s01_answers) (k := 13) (CX := C8.CX0) (ps := ["calls"]) (sp := Nr.spAnswers) (by decide +kernel) rfl rfl ⟨rfl, by decide, by decide⟩ (fun w h Y => PySem.W.kIn_of Y) ?F ?S (fun _ _ _ _ z => z)
  case F =>
    intro w mg fa h Y KX G hmg
    refine' Nr.all_mk hmg ?d0 ?d1 ?d2 ?d3 ?d4 ?d5 ?d6 ?d7 ?d8 ?d9 ?d10 ?d11 ?d12 ?d13 ?d14 ?d15 ?d16 ?d17 ?d18 ?d19 ?d20 ?d21 ?d22 ?d23 ?d24 ?d25 ?d26 ?d27 ?d28 ?d29 ?d30 ?d31 ?d32 ?d33 ?d34 ?d35 ?d36 ?d37 ?d38 ?d39 ?n0 ?n1 ?n2 ?n3 ?n4 ?n5 ?n6 ?n7 ?n8 ?n9 ?n10 ?n11 ?n12 ?n13 ?n14 ?n15 ?n16 ?n17 ?n18 ?n19 ?n20 ?n21 ?n22 ?n23 ?n24 ?n25 ?n26 ?n27 ?n28 ?n29 ?z0 ?z1 ?z2 ?z3 ?z4 ?z5 ?z6 ?z7 ?z8 ?z9 ?bh ?cq ?mq ?q0 ?q1 ?cn ?mn ?m0 ?m1 ?m2 ?m3 ?m4 ?m5 ?m6 ?m7 ?m8 ?m9 ?an
    case d0 =>
      refine' Nr.def_at KX G ?a ?l ?c ?k (fun _ _ _ _ _ _ us hl => match us, hl with | [_], _ => rfl)
      (case a => k_is); (case l => k_is); (case c => k_is); (case k => k_is)
    case d1 =>
      refine' Nr.def_at KX G ?a ?l ?c ?k (fun _ _ _ _ _ _ us hl => match us, hl with | [_, _], _ => rfl)
      (case a => k_is); (case l => k_is); (case c => k_is); (case k => k_is)
    case d2 =>
      refine' Nr.def_at KX G ?a ?l ?c ?k (fun _ _ _ _ _ _ us hl => match us, hl with | [_, _], _ => rfl)
      (case a => k_is); (case l => k_is); (case c => k_is); (case k => k_is)
    case d3 =>
      refine' Nr.def_at KX G ?a ?l ?c ?k (fun _ _ _ _ _ _ us hl => match us, hl with | [_], _ => rfl)
      (case a => k_is); (case l => k_is); (case c => k_is); (case k => k_is)
    case d4 =>
      refine' Nr.def_at KX G ?a ?l ?c ?k (fun _ _ _ _ _ _ us hl => match us, hl with | [_], _ => rfl)
      (case a => k_is); (case l => k_is); (case c => k_is); (case k => k_is)
    case d5 =>
      refine' Nr.def_at KX G ?a ?l ?c ?k (fun _ _ _ _ _ _ us hl => match us, hl with | [_, _], _ => rfl)
      (case a => k_is); (case l => k_is); (case c => k_is); (case k => k_is)
    case d6 =>
      refine' Nr.def_at KX G ?a ?l ?c ?k (fun _ _ _ _ _ _ us hl => match us, hl with | [_, _], _ => rfl)
      (case a => k_is); (case l => k_is); (case c => k_is); (case k => k_is)
    case d7 =>
      refine' Nr.def_at KX G ?a ?l ?c ?k (fun _ _ _ _ _ _ us hl => match us, hl with | [_, _], _ => rfl)
      (case a => k_is); (case l => k_is); (case c => k_is); (case k => k_is)
    case d8 =>
      refine' Nr.def_at KX G ?a ?l ?c ?k (fun _ _ _ _ _ _ us hl => match us, hl with | [_, _], _ => rfl)
      (case a => k_is); (case l => k_is); (case c => k_is); (case k => k_is)
    case d9 =>
      refine' Nr.def_at KX G ?a ?l ?c ?k (fun _ _ _ _ _ _ us hl => match us, hl with | [_, _], _ => rfl)
      (case a => k_is); (case l => k_is); (case c => k_is); (case k => k_is)
    case d10 =>
      refine' Nr.def_at KX G ?a ?l ?c ?k (fun _ _ _ _ _ _ us hl => match us, hl with | [_, _], _ => rfl)
      (case a => k_is); (case l => k_is); (case c => k_is); (case k => k_is)
    case d11 =>
      refine' Nr.def_at KX G ?a ?l ?c ?k (fun _ _ _ _ _ _ us hl => match us, hl with | [_, _], _ => rfl)
      (case a => k_is); (case l => k_is); (case c => k_is); (case k => k_is)
    case d12 =>
      refine' Nr.def_at KX G ?a ?l ?c ?k (fun _ _ _ _ _ _ us hl => match us, hl with | [_, _], _ => rfl)
      (case a => k_is); (case l => k_is); (case c => k_is); (case k => k_is)
    case d13 =>
      refine' Nr.def_at KX G ?a ?l ?c ?k (fun _ _ _ _ _ _ us hl => match us, hl with | [_, _], _ => rfl)
      (case a => k_is); (case l => k_is); (case c => k_is); (case k => k_is)
    case d14 =>
      refine' Nr.def_at KX G ?a ?l ?c ?k (fun _ _ _ _ _ _ us hl => match us, hl with | [_, _], _ => rfl)
      (case a => k_is); (case l => k_is); (case c => k_is); (case k => k_is)
    case d15 =>
      refine' Nr.def_at KX G ?a ?l ?c ?k (fun _ _ _ _ _ _ us hl => match us, hl with | [_, _], _ => rfl)
      (case a => k_is); (case l => k_is); (case c => k_is); (case k => k_is)
    case d16 =>
      refine' Nr.def_at KX G ?a ?l ?c ?k (fun _ _ _ _ _ _ us hl => match us, hl with | [_, _], _ => rfl)
      (case a => k_is); (case l => k_is); (case c => k_is); (case k => k_is)
    case d17 =>
      refine' Nr.def_at KX G ?a ?l ?c ?k (fun _ _ _ _ _ _ us hl => match us, hl with | [_, _], _ => rfl)
      (case a => k_is); (case l => k_is); (case c => k_is); (case k => k_is)
    case d18 =>
      refine' Nr.def_at KX G ?a ?l ?c ?k (fun _ _ _ _ _ _ us hl => match us, hl with | [_, _], _ => rfl)
      (case a => k_is); (case l => k_is); (case c => k_is); (case k => k_is)
    case d19 =>
      refine' Nr.def_at KX G ?a ?l ?c ?k (fun _ _ _ _ _ _ us hl => match us, hl with | [_, _], _ => rfl)
      (case a => k_is); (case l => k_is); (case c => k_is); (case k => k_is)
    case d20 =>
      refine' Nr.def_at KX G ?a ?l ?c ?k (fun _ _ _ _ _ _ us hl => match us, hl with | [_, _, _], _ => rfl)
      (case a => k_is); (case l => k_is); (case c => k_is); (case k => k_is)
    case d21 =>
      refine' Nr.def_at KX G ?a ?l ?c ?k (fun _ _ _ _ _ _ us hl => match us, hl with | [_, _, _], _ => rfl)
      (case a => k_is); (case l => k_is); (case c => k_is); (case k => k_is)
    case d22 =>
      refine' Nr.def_at KX G ?a ?l ?c ?k (fun _ _ _ _ _ _ us hl => match us, hl with | [_, _], _ => rfl)
      (case a => k_is); (case l => k_is); (case c => k_is); (case k => k_is)
    case d23 =>
      refine' Nr.def_at KX G ?a ?l ?c ?k (fun _ _ _ _ _ _ us hl => match us, hl with | [_, _, _], _ => rfl)
      (case a => k_is); (case l => k_is); (case c => k_is); (case k => k_is)
    case d24 =>
      refine' Nr.def_at KX G ?a ?l ?c ?k (fun _ _ _ _ _ _ us hl => match us, hl with | [_, _, _, _], _ => rfl)
      (case a => k_is); (case l => k_is); (case c => k_is); (case k => k_is)
    case d25 =>
      refine' Nr.def_at KX G ?a ?l ?c ?k (fun _ _ _ _ _ _ us hl => match us, hl with | [_], _ => rfl)
      (case a => k_is); (case l => k_is); (case c => k_is); (case k => k_is)
    case d26 =>
      refine' Nr.def_at KX G ?a ?l ?c ?k (fun _ _ _ _ _ _ us hl => match us, hl with | [_], _ => rfl)
      (case a => k_is); (case l => k_is); (case c => k_is); (case k => k_is)
    case d27 =>
      refine' Nr.def_at KX G ?a ?l ?c ?k (fun _ _ _ _ _ _ us hl => match us, hl with | [_], _ => rfl)
      (case a => k_is); (case l => k_is); (case c => k_is); (case k => k_is)
    case d28 =>
      refine' Nr.def_at KX G ?a ?l ?c ?k (fun _ _ _ _ _ _ us hl => match us, hl with | [_], _ => rfl)
      (case a => k_is); (case l => k_is); (case c => k_is); (case k => k_is)
    case d29 =>
      refine' Nr.def_at KX G ?a ?l ?c ?k (fun _ _ _ _ _ _ us hl => match us, hl with | [_, _], _ => rfl)
      (case a => k_is); (case l => k_is); (case c => k_is); (case k => k_is)
    case d30 =>
      refine' Nr.def_at KX G ?a ?l ?c ?k (fun _ _ _ _ _ _ us hl => match us, hl with | [_], _ => rfl)
      (case a => k_is); (case l => k_is); (case c => k_is); (case k => k_is)
    case d31 =>
      refine' Nr.def_at KX G ?a ?l ?c ?k (fun _ _ _ _ _ _ us hl => match us, hl with | [_, _], _ => rfl)
      (case a => k_is); (case l => k_is); (case c => k_is); (case k => k_is)
    case d32 =>
      refine' Nr.def_at KX G ?a ?l ?c ?k (fun _ _ _ _ _ _ us hl => match us, hl with | [_, _, _], _ => rfl)
      (case a => k_is); (case l => k_is); (case c => k_is); (case k => k_is)
    case d33 =>
      refine' Nr.def_at KX G ?a ?l ?c ?k (fun _ _ _ _ _ _ us hl => match us, hl with | [_, _, _], _ => rfl)
      (case a => k_is); (case l => k_is); (case c => k_is); (case k => k_is)
    case d34 =>
      refine' Nr.def_at KX G ?a ?l ?c ?k (fun _ _ _ _ _ _ us hl => match us, hl with | [_, _], _ => rfl)
      (case a => k_is); (case l => k_is); (case c => k_is); (case k => k_is)
    case d35 =>
      refine' Nr.def_at KX G ?a ?l ?c ?k (fun _ _ _ _ _ _ us hl => match us, hl with | [_, _, _], _ => rfl)
      (case a => k_is); (case l => k_is); (case c => k_is); (case k => k_is)
    case d36 =>
      refine' Nr.def_at KX G ?a ?l ?c ?k (fun _ _ _ _ _ _ us hl => match us, hl with | [_, _], _ => rfl)
      (case a => k_is); (case l => k_is); (case c => k_is); (case k => k_is)
    case d37 =>
      refine' Nr.def_at KX G ?a ?l ?c ?k (fun _ _ _ _ _ _ us hl => match us, hl with | [_, _, _], _ => rfl)
      (case a => k_is); (case l => k_is); (case c => k_is); (case k => k_is)
    case d38 =>
      refine' Nr.def_at KX G ?a ?l ?c ?k (fun _ _ _ _ _ _ us hl => match us, hl with | [_, _, _], _ => rfl)
      (case a => k_is); (case l => k_is); (case c => k_is); (case k => k_is)
    case d39 =>
      refine' Nr.def_at KX G ?a ?l ?c ?k (fun _ _ _ _ _ _ us hl => match us, hl with | [_, _, _], _ => rfl)
      (case a => k_is); (case l => k_is); (case c => k_is); (case k => k_is)
    case n0 => refine' Nr.num_at KX G ?a; (case a => k_is)
    case n1 => refine' Nr.num_at KX G ?a; (case a => k_is)
    case n2 => refine' Nr.num_at KX G ?a; (case a => k_is)
    case n3 => refine' Nr.num_at KX G ?a; (case a => k_is)
    case n4 => refine' Nr.num_at KX G ?a; (case a => k_is)
    case n5 => refine' Nr.num_at KX G ?a; (case a => k_is)
    case n6 => refine' Nr.num_at KX G ?a; (case a => k_is)
    case n7 => refine' Nr.num_at KX G ?a; (case a => k_is)
    case n8 => refine' Nr.num_at KX G ?a; (case a => k_is)
    case n9 => refine' Nr.num_at KX G ?a; (case a => k_is)
    case n10 => refine' Nr.num_at KX G ?a; (case a => k_is)
    case n11 => refine' Nr.num_at KX G ?a; (case a => k_is)
    case n12 => refine' Nr.num_at KX G ?a; (case a => k_is)
    case n13 => refine' Nr.num_at KX G ?a; (case a => k_is)
    case n14 => refine' Nr.num_at KX G ?a; (case a => k_is)
    case n15 => refine' Nr.num_at KX G ?a; (case a => k_is)
    case n16 => refine' Nr.num_at KX G ?a; (case a => k_is)
    case n17 => refine' Nr.num_at KX G ?a; (case a => k_is)
    case n18 => refine' Nr.num_at KX G ?a; (case a => k_is)
    case n19 => refine' Nr.num_at KX G ?a; (case a => k_is)
    case n20 => refine' Nr.num_at KX G ?a; (case a => k_is)
    case n21 => refine' Nr.num_at KX G ?a; (case a => k_is)
    case n22 => refine' Nr.num_at KX G ?a; (case a => k_is)
    case n23 => refine' Nr.num_at KX G ?a; (case a => k_is)
    case n24 => refine' Nr.num_at KX G ?a; (case a => k_is)
    case n25 => refine' Nr.num_at KX G ?a; (case a => k_is)
    case n26 => refine' Nr.num_at KX G ?a; (case a => k_is)
    case n27 => refine' Nr.num_at KX G ?a; (case a => k_is)
    case n28 => refine' Nr.num_at KX G ?a; (case a => k_is)
    case n29 => refine' Nr.num_at KX G ?a; (case a => k_is)
    case z0 => refine' Nr.none_at KX G ?a; (case a => k_is)
    case z1 => refine' Nr.none_at KX G ?a; (case a => k_is)
    case z2 => refine' Nr.none_at KX G ?a; (case a => k_is)
    case z3 => refine' Nr.none_at KX G ?a; (case a => k_is)
    case z4 => refine' Nr.none_at KX G ?a; (case a => k_is)
    case z5 => refine' Nr.none_at KX G ?a; (case a => k_is)
    case z6 => refine' Nr.none_at KX G ?a; (case a => k_is)
    case z7 => refine' Nr.none_at KX G ?a; (case a => k_is)
    case z8 => refine' Nr.none_at KX G ?a; (case a => k_is)
    case z9 => refine' Nr.none_at KX G ?a; (case a => k_is)
    case bh =>
      refine' Nr.behind_at KX G ?a ?b ?c ?d ?e
      (case a => k_is); (case b => k_is); (case c => exact rfl); (case d => exact rfl); (case e => first | exact rfl | decide +kernel)
    case cq =>
      refine' Nr.cls_q KX G ?a ?pg ?hd ?po ?sa ?n1 ?n2 ?n3 ?n4
      (case a => k_is); (case pg => k_is); (case hd => k_is); (case po => k_is); (case sa => k_is); (case n1 => k_is); (case n2 => k_is); (case n3 => k_is); (case n4 => k_is)
    case mq =>
      refine' Nr.mak_at ?m ?kc ?a ?i ?l ?c (fun _ _ _ _ _ _ us hl => match us, hl with | [_, _, _, _, _], _ => rfl)
      (case m => k_is); (case kc => k_is); (case a => k_is); (case i => k_is); (case l => k_is); (case c => k_is)
    case q0 =>
      refine' Nr.meth_at ?a ?i ?l ?c ?k (fun _ _ _ _ _ _ us hl => match us, hl with | [_, _, _], _ => rfl)
      (case a => k_is); (case i => k_is); (case l => k_is); (case c => k_is); (case k => k_is)
    case q1 =>
      refine' Nr.meth_at ?a ?i ?l ?c ?k (fun _ _ _ _ _ _ us hl => match us, hl with | [_, _, _], _ => rfl)
      (case a => k_is); (case i => k_is); (case l => k_is); (case c => k_is); (case k => k_is)
    case cn =>
      refine' Nr.cls_n KX G ?a ?pg ?hd ?po ?sa ?n1 ?n2 ?n3 ?n4
      (case a => k_is); (case pg => k_is); (case hd => k_is); (case po => k_is); (case sa => k_is); (case n1 => k_is); (case n2 => k_is); (case n3 => k_is); (case n4 => k_is)
    case mn =>
      refine' Nr.mak_at ?m ?kc ?a ?i ?l ?c (fun _ _ _ _ _ _ us hl => match us, hl with | [_], _ => rfl)
      (case m => k_is); (case kc => k_is); (case a => k_is); (case i => k_is); (case l => k_is); (case c => k_is)
    case m0 =>
      refine' Nr.meth_at ?a ?i ?l ?c ?k (fun _ _ _ _ _ _ us hl => match us, hl with | [_, _], _ => rfl)
      (case a => k_is); (case i => k_is); (case l => k_is); (case c => k_is); (case k => k_is)
    case m1 =>
      refine' Nr.meth_at ?a ?i ?l ?c ?k (fun _ _ _ _ _ _ us hl => match us, hl with | [_, _], _ => rfl)
      (case a => k_is); (case i => k_is); (case l => k_is); (case c => k_is); (case k => k_is)
    case m2 =>
      refine' Nr.meth_at ?a ?i ?l ?c ?k (fun _ _ _ _ _ _ us hl => match us, hl with | [_, _], _ => rfl)
      (case a => k_is); (case i => k_is); (case l => k_is); (case c => k_is); (case k => k_is)
    case m3 =>
      refine' Nr.meth_at ?a ?i ?l ?c ?k (fun _ _ _ _ _ _ us hl => match us, hl with | [_, _], _ => rfl)
      (case a => k_is); (case i => k_is); (case l => k_is); (case c => k_is); (case k => k_is)
    case m4 =>
      refine' Nr.meth_at ?a ?i ?l ?c ?k (fun _ _ _ _ _ _ us hl => match us, hl with | [_, _, _], _ => rfl)
      (case a => k_is); (case i => k_is); (case l => k_is); (case c => k_is); (case k => k_is)
    case m5 =>
      refine' Nr.meth_at ?a ?i ?l ?c ?k (fun _ _ _ _ _ _ us hl => match us, hl with | [_, _, _, _, _], _ => rfl)
      (case a => k_is); (case i => k_is); (case l => k_is); (case c => k_is); (case k => k_is)
    case m6 =>
      refine' Nr.meth_at ?a ?i ?l ?c ?k (fun _ _ _ _ _ _ us hl => match us, hl with | [_, _, _, _, _], _ => rfl)
      (case a => k_is); (case i => k_is); (case l => k_is); (case c => k_is); (case k => k_is)
    case m7 =>
      refine' Nr.meth_at ?a ?i ?l ?c ?k (fun _ _ _ _ _ _ us hl => match us, hl with | [_, _, _], _ => rfl)
      (case a => k_is); (case i => k_is); (case l => k_is); (case c => k_is); (case k => k_is)
    case m8 =>
      refine' Nr.meth_at ?a ?i ?l ?c ?k (fun _ _ _ _ _ _ us hl => match us, hl with | [_, _], _ => rfl)
      (case a => k_is); (case i => k_is); (case l => k_is); (case c => k_is); (case k => k_is)
    case m9 =>
      refine' Nr.meth_at ?a ?i ?l ?c ?k (fun _ _ _ _ _ _ us hl => match us, hl with | [_, _, _], _ => rfl)
      (case a => k_is); (case i => k_is); (case l => k_is); (case c => k_is); (case k => k_is)
    case an =>
      refine' Nr.ans_at KX G ?a ?l ?c ?k (fun _ _ _ _ _ _ us hl => match us, hl with | [_], _ => rfl)
      (case a => k_is); (case l => k_is); (case c => k_is); (case k => k_is)
  case S =>
    intro K H xs a hO hwi hask hx
    cases hx with
    | cons h1 h2 =>
      cases h2
      cases h1 with
      | lst hs ha =>
        have e := L2.ints_dw a.1 _ ha
        subst e
        have q : ((Codec.inLen 0 3000 a.1 && a.1.all (Codec.inInt 0 4294967295)) && true) = true := hwi
        rw [Bool.and_eq_true, Bool.and_eq_true] at q
        refine ⟨_, a.1, rfl, hs, (Codec.inNat_iff.mp q.1.1).2, fun x m => Codec.inInt_iff.mp (List.all_eq_true.mp q.1.2 x m), hask, fun H' p hp => .lst (L2.SqL.of hp) (L2.dw_ints _)⟩

