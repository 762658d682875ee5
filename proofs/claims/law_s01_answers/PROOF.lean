import PyProof.Rows.All
import Wide.All
import OpenK.AllK
import Wide.FinOn
import Open.SpecLaws
import KE.OsGo
import HandS.ForSpec
import HandS.TryMany
import HandS.ForMost
import HandS.More
import HandS.Walk
import KE.GoesMore
import HandS.Evl
import HandS.NoneIn
import HandS.Style
import HandS.SetFor
import HandS.CallLocal
import PySem.Challenge.RW_fallingground_s01_answers
set_option linter.unusedVariables false
namespace GT
open Vbwsae

/-! # The specification's maps as trees: put, del and get; equal pairs are equal maps -/

/-- k is a key of the tree -/
def InT {A : Type} : T A → Nat → Prop
  | .none, _ => False
  | .leaf j _, k => k = j
  | .fork _ l r, k => InT l k ∨ InT r k

/-- forks part their keys by their bit, and the keys agree above it; no side is empty -/
def WF {A : Type} : T A → Prop
  | .none => True
  | .leaf j _ => j < 2 ^ 40
  | .fork b l r => WF l ∧ WF r ∧ (∃ k, InT l k) ∧ (∃ k, InT r k) ∧ ∃ p, (∀ k, InT l k → k / 2 ^ b = 2 * p) ∧ (∀ k, InT r k → k / 2 ^ b = 2 * p + 1)

theorem wf_lt {A : Type} : ∀ {t : T A} {k : Nat}, WF t → InT t k → k < 2 ^ 40
  | .none, _, _, h => h.elim
  | .leaf j x, k, w, h => by
    have e : k = j := h
    subst e
    exact w
  | .fork b l r, k, w, h => by
    rcases h with h | h
    · exact wf_lt w.1 h
    · exact wf_lt w.2.1 h

theorem bit_odd {k b p : Nat} (h : k / 2 ^ b = 2 * p + 1) : k.testBit b = true := by
  rw [Nat.testBit_eq_decide_div_mod_eq, h]
  simp
theorem bit_even {k b p : Nat} (h : k / 2 ^ b = 2 * p) : k.testBit b = false := by
  rw [Nat.testBit_eq_decide_div_mod_eq, h]
  simp
theorem bit_half {k b : Nat} : k / 2 ^ b = 2 * (k / 2 ^ (b + 1)) + (if k.testBit b = true then 1 else 0) := by
  rw [Nat.testBit_eq_decide_div_mod_eq, Nat.pow_succ, ← Nat.div_div_eq_div_mul]
  by_cases h : k / 2 ^ b % 2 = 1
  · simp only [h, decide_true, if_true]
    omega
  · have : k / 2 ^ b % 2 = 0 := by omega
    simp only [h, decide_false]
    simp
    omega

theorem not_in_of_get {A : Type} : ∀ {t : T A} {k : Nat}, WF t → ¬ InT t k → get t k = none
  | .none, _, _, _ => rfl
  | .leaf j x, k, _, h => by
    have : ¬ j = k := fun e => h e.symm
    show (if j = k then some x else none) = none
    rw [if_neg this]
  | .fork b l r, k, w, h => by
    show (if k.testBit b = true then get r k else get l k) = none
    split
    · exact not_in_of_get w.2.1 fun q => h (.inr q)
    · exact not_in_of_get w.1 fun q => h (.inl q)

theorem in_of_get {A : Type} {t : T A} {k : Nat} {x : A} (w : WF t) (h : get t k = some x) : InT t k := by
  apply Classical.byContradiction
  intro q
  rw [not_in_of_get w q] at h
  cases h

theorem get_fork_l {A : Type} {b : Nat} {l r : T A} {k : Nat} (w : WF (.fork b l r)) (h : InT l k) : get (.fork b l r) k = get l k := by
  obtain ⟨_, _, _, _, p, hl, hr⟩ := w
  show (if k.testBit b = true then get r k else get l k) = _
  rw [bit_even (hl k h)]
  rfl
theorem get_fork_r {A : Type} {b : Nat} {l r : T A} {k : Nat} (w : WF (.fork b l r)) (h : InT r k) : get (.fork b l r) k = get r k := by
  obtain ⟨_, _, _, _, p, hl, hr⟩ := w
  show (if k.testBit b = true then get r k else get l k) = _
  rw [bit_odd (hr k h)]
  rfl

theorem get_of_in {A : Type} : ∀ {t : T A} {k : Nat}, WF t → InT t k → ∃ x, get t k = some x
  | .none, _, _, h => h.elim
  | .leaf j x, k, _, h => ⟨x, if_pos h.symm⟩
  | .fork b l r, k, w, h => by
    rcases h with h | h
    · rw [get_fork_l w h]
      exact get_of_in w.1 h
    · rw [get_fork_r w h]
      exact get_of_in w.2.1 h

theorem least_in {A : Type} : ∀ {t : T A}, WF t → (∃ k, InT t k) → InT t (leastKey t)
  | .none, _, h => h.elim fun _ q => q
  | .leaf j x, _, _ => rfl
  | .fork b l r, w, _ => Or.inl (least_in w.1 w.2.2.1)

/-- above the bit n where a and b may differ first -/
theorem topFrom_spec (a b : Nat) : ∀ n, a / 2 ^ n = b / 2 ^ n → a ≠ b →
    topFrom a b n < n ∧ a.testBit (topFrom a b n) ≠ b.testBit (topFrom a b n) ∧ a / 2 ^ (topFrom a b n + 1) = b / 2 ^ (topFrom a b n + 1)
  | 0, h, d => by
    simp at h
    exact absurd h d
  | n + 1, h, d => by
    unfold topFrom
    by_cases c : a.testBit n = b.testBit n
    · have e : a / 2 ^ n = b / 2 ^ n := by
        rw [bit_half (k := a), bit_half (k := b), h, c]
      have ih := topFrom_spec a b n e d
      rw [c]
      simp only [bne_self_eq_false, Bool.false_eq_true, if_false]
      exact ⟨by omega, ih.2⟩
    · have : (a.testBit n != b.testBit n) = true := by
        simp only [bne_iff_ne, ne_eq]
        exact c
      rw [if_pos this]
      exact ⟨Nat.lt_succ_self n, c, h⟩

theorem top_spec {a b : Nat} (ha : a < 2 ^ 40) (hb : b < 2 ^ 40) (d : a ≠ b) :
    a.testBit (top a b) ≠ b.testBit (top a b) ∧ a / 2 ^ (top a b + 1) = b / 2 ^ (top a b + 1) :=
  (topFrom_spec a b 40 (by rw [Nat.div_eq_of_lt ha, Nat.div_eq_of_lt hb]) d).2

theorem topFrom_self (a : Nat) : ∀ n, topFrom a a n = 0
  | 0 => rfl
  | n + 1 => by
    unfold topFrom
    simp only [bne_self_eq_false, Bool.false_eq_true, if_false]
    exact topFrom_self a n

/-- two trees under a new fork -/
theorem wf_under {A : Type} {b k : Nat} {s t : T A} (ws : WF s) (wt : WF t) (hs : ∀ j, InT s j ↔ j = k) (ht : ∃ j, InT t j)
    (h : ∀ j, InT t j → j / 2 ^ (b + 1) = k / 2 ^ (b + 1) ∧ j.testBit b ≠ k.testBit b) : WF (under b k s t) ∧ ∀ j, InT (under b k s t) j ↔ (j = k ∨ InT t j) := by
  unfold under
  by_cases c : k.testBit b = true
  · rw [if_pos c]
    refine ⟨⟨wt, ws, ht, ⟨k, (hs k).mpr rfl⟩, k / 2 ^ (b + 1), fun j q => ?_, fun j q => ?_⟩, fun j => ?_⟩
    · have := h j q
      have e : j.testBit b = false := by
        rw [c] at this
        simpa using this.2
      rw [bit_half (k := j), this.1, e]
      simp
    · have e := (hs j).mp q
      subst e
      rw [bit_half (k := j), c]
      simp
    · show (InT t j ∨ InT s j) ↔ _
      rw [hs j]
      exact Or.comm
  · rw [if_neg c]
    refine ⟨⟨ws, wt, ⟨k, (hs k).mpr rfl⟩, ht, k / 2 ^ (b + 1), fun j q => ?_, fun j q => ?_⟩, fun j => ?_⟩
    · have e := (hs j).mp q
      subst e
      rw [bit_half (k := j), if_neg c]
      rfl
    · have := h j q
      have e : j.testBit b = true := by
        have c' : k.testBit b = false := by simpa using c
        rw [c'] at this
        simpa using this.2
      rw [bit_half (k := j), this.1, e]
      simp
    · show (InT s j ∨ InT t j) ↔ _
      rw [hs j]

theorem get_under {A : Type} {b k : Nat} {s t : T A} (j : Nat) (hs : ∀ j, InT s j ↔ j = k)
    (h : ∀ j, InT t j → j.testBit b ≠ k.testBit b) (wt : WF t) (ws : WF s) : get (under b k s t) j = if j = k then get s j else get t j := by
  unfold under
  by_cases c : k.testBit b = true
  · rw [if_pos c]
    show (if j.testBit b = true then get s j else get t j) = _
    by_cases e : j = k
    · subst e
      rw [if_pos c, if_pos rfl]
    · rw [if_neg e]
      by_cases q : j.testBit b = true
      · rw [if_pos q]
        have n1 : ¬ InT t j := fun z => h j z (by rw [q, c])
        have n2 : ¬ InT s j := fun z => e ((hs j).mp z)
        rw [not_in_of_get wt n1, not_in_of_get ws n2]
      · rw [if_neg q]
  · rw [if_neg c]
    show (if j.testBit b = true then get t j else get s j) = _
    by_cases e : j = k
    · subst e
      rw [if_neg c, if_pos rfl]
    · rw [if_neg e]
      by_cases q : j.testBit b = true
      · rw [if_pos q]
      · rw [if_neg q]
        have c1 : k.testBit b = false := by simpa using c
        have q1 : j.testBit b = false := by simpa using q
        have n1 : ¬ InT t j := fun z => h j z (by rw [q1, c1])
        have n2 : ¬ InT s j := fun z => e ((hs j).mp z)
        rw [not_in_of_get wt n1, not_in_of_get ws n2]

theorem in_leaf {A : Type} {k : Nat} {x : A} : ∀ j, InT (.leaf k x : T A) j ↔ j = k := fun _ => Iff.rfl

theorem div_le_pow {a b m n : Nat} (h : a / 2 ^ m = b / 2 ^ m) (l : m ≤ n) : a / 2 ^ n = b / 2 ^ n := by
  obtain ⟨d, rfl⟩ := Nat.le.dest l
  rw [Nat.pow_add, ← Nat.div_div_eq_div_mul, ← Nat.div_div_eq_div_mul, h]

theorem bit_of_div {a b n m : Nat} (h : a / 2 ^ m = b / 2 ^ m) (l : m ≤ n) : a.testBit n = b.testBit n := by
  rw [Nat.testBit_eq_decide_div_mod_eq, Nat.testBit_eq_decide_div_mod_eq, div_le_pow h l]

/-- what put makes -/
theorem put_all {A : Type} {k : Nat} {x : A} (hk : k < 2 ^ 40) : ∀ {t : T A}, WF t → WF (put k x t) ∧ (∀ j, InT (put k x t) j ↔ (j = k ∨ InT t j)) ∧ (∀ j, get (put k x t) j = if j = k then some x else get t j)
  | .none, _ => ⟨hk, fun j => by simp [put, InT], fun j => by
      show (if k = j then some x else none) = _
      by_cases e : j = k
      · rw [if_pos e, if_pos e.symm]
      · rw [if_neg e, if_neg (fun q => e q.symm)]
        rfl⟩
  | .leaf i y, w => by
    have hi : i < 2 ^ 40 := w
    unfold put
    by_cases e : i = k
    · rw [if_pos e]
      subst e
      refine ⟨hk, fun j => by simp [InT], fun j => ?_⟩
      show (if i = j then some x else none) = (if j = i then some x else if i = j then some y else none)
      by_cases e : j = i
      · rw [if_pos e, if_pos e.symm]
      · rw [if_neg e, if_neg (fun q => e q.symm), if_neg (fun q => e q.symm)]
    · rw [if_neg e]
      have tp := top_spec hk hi (fun q => e q.symm)
      have u := wf_under (b := top k i) (k := k) (s := .leaf k x) (t := .leaf i y) hk w in_leaf ⟨i, rfl⟩ (fun j q => by
        have e2 : j = i := q
        subst e2
        exact ⟨tp.2.symm, fun z => tp.1 z.symm⟩)
      refine ⟨u.1, u.2, fun j => ?_⟩
      rw [get_under j in_leaf (fun j q => by
        have e2 : j = i := q
        subst e2
        exact fun z => tp.1 z.symm) w hk]
      by_cases e3 : j = k
      · rw [if_pos e3, if_pos e3]
        exact if_pos e3.symm
      · rw [if_neg e3, if_neg e3]
  | .fork b l r, w => by
    have ihl := put_all (x := x) hk w.1
    have ihr := put_all (x := x) hk w.2.1
    obtain ⟨wl, wr, nl, nr, p, hl, hr⟩ := id w
    unfold put
    have ll := least_in wl nl
    have lb : leastKey l < 2 ^ 40 := wf_lt wl ll
    dsimp only
    -- everything in the fork agrees above b with the least key
    have agree : ∀ j, InT (.fork b l r) j → j / 2 ^ (b + 1) = leastKey l / 2 ^ (b + 1) := fun j q => by
      have h0 := hl _ ll
      rw [Nat.pow_succ, ← Nat.div_div_eq_div_mul, ← Nat.div_div_eq_div_mul, h0]
      rcases q with q | q
      · rw [hl j q]
      · rw [hr j q]
        omega
    by_cases c : b < top k (leastKey l)
    · rw [if_pos c]
      have ne : k ≠ leastKey l := fun e => by
        rw [← e] at c
        have : top k k = 0 := topFrom_self k 40
        omega
      have tp := top_spec hk lb ne
      have hh : ∀ j, InT (.fork b l r) j → j / 2 ^ (top k (leastKey l) + 1) = k / 2 ^ (top k (leastKey l) + 1) ∧ j.testBit (top k (leastKey l)) ≠ k.testBit (top k (leastKey l)) := fun j q => by
        have a := agree j q
        refine ⟨?_, ?_⟩
        · rw [div_le_pow a (by omega), tp.2]
        · rw [bit_of_div a (by omega)]
          exact fun z => tp.1 z.symm
      have u := wf_under (b := top k (leastKey l)) (k := k) (s := .leaf k x) (t := .fork b l r) hk w in_leaf ⟨leastKey l, Or.inl ll⟩ hh
      refine ⟨u.1, u.2, fun j => ?_⟩
      rw [get_under j in_leaf (fun j q => (hh j q).2) w hk]
      by_cases e3 : j = k
      · rw [if_pos e3, if_pos e3]
        exact if_pos e3.symm
      · rw [if_neg e3, if_neg e3]
    · rw [if_neg c]
      have ka : k / 2 ^ (b + 1) = p := by
        have h0 := hl _ ll
        have h1 : leastKey l / 2 ^ (b + 1) = p := by
          rw [Nat.pow_succ, ← Nat.div_div_eq_div_mul, h0]
          omega
        by_cases e : k = leastKey l
        · rw [e, h1]
        · have tp := top_spec hk lb e
          rw [div_le_pow tp.2 (by omega), h1]
      by_cases q : k.testBit b = true
      · rw [if_pos q]
        have kb : k / 2 ^ b = 2 * p + 1 := by rw [bit_half, ka, if_pos q]
        refine ⟨⟨wl, ihr.1, nl, ⟨k, (ihr.2.1 k).mpr (.inl rfl)⟩, p, hl, fun j z => ?_⟩, fun j => ?_, fun j => ?_⟩
        · rcases (ihr.2.1 j).mp z with z | z
          · rw [z, kb]
          · exact hr j z
        · show (InT l j ∨ InT (put k x r) j) ↔ (j = k ∨ (InT l j ∨ InT r j))
          rw [ihr.2.1 j]
          constructor
          · rintro (h | h | h)
            · exact .inr (.inl h)
            · exact .inl h
            · exact .inr (.inr h)
          · rintro (h | h | h)
            · exact .inr (.inl h)
            · exact .inl h
            · exact .inr (.inr h)
        · show (if j.testBit b = true then get (put k x r) j else get l j) = (if j = k then some x else if j.testBit b = true then get r j else get l j)
          rw [ihr.2.2 j]
          by_cases e : j = k
          · subst e
            rw [if_pos q, if_pos rfl, if_pos rfl]
          · rw [if_neg e, if_neg e]
      · rw [if_neg q]
        have kb : k / 2 ^ b = 2 * p := by rw [bit_half, ka, if_neg q]; rfl
        refine ⟨⟨ihl.1, wr, ⟨k, (ihl.2.1 k).mpr (.inl rfl)⟩, nr, p, fun j z => ?_, hr⟩, fun j => ?_, fun j => ?_⟩
        · rcases (ihl.2.1 j).mp z with z | z
          · rw [z, kb]
          · exact hl j z
        · show (InT (put k x l) j ∨ InT r j) ↔ (j = k ∨ (InT l j ∨ InT r j))
          rw [ihl.2.1 j, or_assoc]
        · show (if j.testBit b = true then get r j else get (put k x l) j) = (if j = k then some x else if j.testBit b = true then get r j else get l j)
          rw [ihl.2.2 j]
          by_cases e : j = k
          · subst e
            rw [if_neg q, if_pos rfl, if_pos rfl]
          · rw [if_neg e, if_neg e]

theorem in_joined {A : Type} {b : Nat} {l r : T A} : ∀ j, InT (joined b l r) j ↔ (InT l j ∨ InT r j) := by
  intro j
  cases l <;> cases r <;> simp [joined, InT]

theorem joined_none {A : Type} {b : Nat} {l : T A} : joined b l .none = l := by
  cases l <;> rfl

theorem nonempty_of {A : Type} {t : T A} (w : WF t) (h : t ≠ .none) : ∃ k, InT t k := by
  cases t with
  | none => exact absurd rfl h
  | leaf j x => exact ⟨j, rfl⟩
  | fork b l r =>
    obtain ⟨k, hk⟩ := w.2.2.1
    exact ⟨k, .inl hk⟩

/-- what del leaves -/
theorem del_all {A : Type} {k : Nat} : ∀ {t : T A}, WF t → WF (del k t) ∧ (∀ j, InT (del k t) j ↔ (j ≠ k ∧ InT t j)) ∧ (∀ j, get (del k t) j = if j = k then none else get t j)
  | .none, _ => ⟨trivial, fun j => by simp [del, InT], fun j => by
      show none = _
      split <;> rfl⟩
  | .leaf i y, w => by
    unfold del
    by_cases e : i = k
    · rw [if_pos e]
      subst e
      refine ⟨trivial, fun j => by simp [InT], fun j => ?_⟩
      show none = (if j = i then none else if i = j then some y else none)
      by_cases e : j = i
      · rw [if_pos e]
      · rw [if_neg e, if_neg (fun q => e q.symm)]
    · rw [if_neg e]
      refine ⟨w, fun j => ?_, fun j => ?_⟩
      · show j = i ↔ (j ≠ k ∧ j = i)
        exact ⟨fun h => ⟨fun z => e (h.symm.trans z), h⟩, fun h => h.2⟩
      · by_cases e3 : j = k
        · rw [if_pos e3]
          exact if_neg (fun z => e (z.trans e3))
        · rw [if_neg e3]
  | .fork b l r, w => by
    have ihl := del_all (k := k) w.1
    have ihr := del_all (k := k) w.2.1
    obtain ⟨wl, wr, nl, nr, p, hl, hr⟩ := id w
    unfold del
    by_cases q : k.testBit b = true
    · rw [if_pos q]
      have nk : ∀ j, InT l j → j ≠ k := fun j z e => by
        have := bit_even (hl j z)
        rw [e, q] at this
        cases this
      have ii : ∀ j, InT (joined b l (del k r)) j ↔ (j ≠ k ∧ InT (.fork b l r) j) := fun j => by
        rw [in_joined, ihr.2.1]
        constructor
        · rintro (h | h)
          · exact ⟨nk j h, .inl h⟩
          · exact ⟨h.1, .inr h.2⟩
        · rintro ⟨h, z | z⟩
          · exact .inl z
          · exact .inr ⟨h, z⟩
      by_cases c : del k r = .none
      · rw [c] at ii ⊢
        rw [joined_none] at ii ⊢
        refine ⟨wl, ii, fun j => ?_⟩
        by_cases e : j = k
        · rw [if_pos e]
          exact not_in_of_get wl fun z => nk j z e
        · rw [if_neg e]
          by_cases z : InT l j
          · exact (get_fork_l w z).symm
          · rw [not_in_of_get wl z]
            refine (not_in_of_get w fun y => ?_).symm
            exact z ((ii j).mpr ⟨e, y⟩)
      · have f : joined b l (del k r) = .fork b l (del k r) := by
          cases l with
          | none => exact nl.elim fun _ z => z.elim
          | leaf i y => cases h : del k r with
            | none => exact absurd h c
            | leaf _ _ => rfl
            | fork _ _ _ => rfl
          | fork i y z => cases h : del k r with
            | none => exact absurd h c
            | leaf _ _ => rfl
            | fork _ _ _ => rfl
        rw [f] at ii ⊢
        refine ⟨⟨wl, ihr.1, nl, nonempty_of ihr.1 c, p, hl, fun j z => hr j ((ihr.2.1 j).mp z).2⟩, ii, fun j => ?_⟩
        show (if j.testBit b = true then get (del k r) j else get l j) = (if j = k then none else if j.testBit b = true then get r j else get l j)
        rw [ihr.2.2 j]
        by_cases e : j = k
        · subst e
          rw [if_pos q, if_pos rfl, if_pos rfl]
        · rw [if_neg e, if_neg e]
    · rw [if_neg q]
      have nk : ∀ j, InT r j → j ≠ k := fun j z e => by
        have := bit_odd (hr j z)
        rw [e] at this
        exact q this
      have ii : ∀ j, InT (joined b (del k l) r) j ↔ (j ≠ k ∧ InT (.fork b l r) j) := fun j => by
        rw [in_joined, ihl.2.1]
        constructor
        · rintro (h | h)
          · exact ⟨h.1, .inl h.2⟩
          · exact ⟨nk j h, .inr h⟩
        · rintro ⟨h, z | z⟩
          · exact .inl ⟨h, z⟩
          · exact .inr z
      by_cases c : del k l = .none
      · have f : joined b (del k l) r = r := by rw [c]; rfl
        rw [f] at ii ⊢
        refine ⟨wr, ii, fun j => ?_⟩
        by_cases e : j = k
        · rw [if_pos e]
          exact not_in_of_get wr fun z => nk j z e
        · rw [if_neg e]
          by_cases z : InT r j
          · exact (get_fork_r w z).symm
          · rw [not_in_of_get wr z]
            refine (not_in_of_get w fun y => ?_).symm
            exact z ((ii j).mpr ⟨e, y⟩)
      · have f : joined b (del k l) r = .fork b (del k l) r := by
          cases r with
          | none => exact nr.elim fun _ z => z.elim
          | leaf i y => cases h : del k l with
            | none => exact absurd h c
            | leaf _ _ => rfl
            | fork _ _ _ => rfl
          | fork i y z => cases h : del k l with
            | none => exact absurd h c
            | leaf _ _ => rfl
            | fork _ _ _ => rfl
        rw [f] at ii ⊢
        refine ⟨⟨ihl.1, wr, nonempty_of ihl.1 c, nr, p, fun j z => hl j ((ihl.2.1 j).mp z).2, hr⟩, ii, fun j => ?_⟩
        show (if j.testBit b = true then get r j else get (del k l) j) = (if j = k then none else if j.testBit b = true then get r j else get l j)
        rw [ihl.2.2 j]
        by_cases e : j = k
        · subst e
          rw [if_neg q, if_pos rfl, if_pos rfl]
        · rw [if_neg e, if_neg e]

/-! ## The pairs tell the map, and the map the pairs -/
theorem mem_pairs {A : Type} : ∀ {t : T A}, WF t → ∀ (k : Nat) (x : A), (k, x) ∈ pairs t ↔ get t k = some x
  | .none, _, k, x => by simp [pairs, Vbwsae.get]
  | .leaf j y, _, k, x => by
    show (k, x) ∈ [(j, y)] ↔ (if j = k then some y else none) = some x
    rw [List.mem_singleton]
    by_cases e : j = k
    · rw [if_pos e, e]
      constructor
      · intro h
        injection h with _ h2
        rw [h2]
      · intro h
        injection h with h2
        rw [h2]
    · rw [if_neg e]
      constructor
      · intro h
        injection h with h1 _
        exact absurd h1.symm e
      · intro h
        cases h
  | .fork b l r, w, k, x => by
    show (k, x) ∈ pairs l ++ pairs r ↔ _
    rw [List.mem_append, mem_pairs w.1, mem_pairs w.2.1]
    constructor
    · rintro (h | h)
      · rw [get_fork_l w (in_of_get w.1 h), h]
      · rw [get_fork_r w (in_of_get w.2.1 h), h]
    · intro h
      rcases in_of_get w h with z | z
      · rw [get_fork_l w z] at h
        exact .inl h
      · rw [get_fork_r w z] at h
        exact .inr h

theorem pairs_sorted {A : Type} : ∀ {t : T A}, WF t → (pairs t).Pairwise fun p q => p.1 < q.1
  | .none, _ => List.Pairwise.nil
  | .leaf _ _, _ => List.pairwise_singleton _ _
  | .fork b l r, w => by
    show (pairs l ++ pairs r).Pairwise _
    rw [List.pairwise_append]
    refine ⟨pairs_sorted w.1, pairs_sorted w.2.1, fun p hp q hq => ?_⟩
    obtain ⟨wl, wr, nl, nr, c, hl, hr⟩ := w
    have a := hl p.1 (in_of_get wl ((mem_pairs wl p.1 p.2).mp hp))
    have b' := hr q.1 (in_of_get wr ((mem_pairs wr q.1 q.2).mp hq))
    apply Classical.byContradiction
    intro n
    have : q.1 / 2 ^ b ≤ p.1 / 2 ^ b := Nat.div_le_div_right (by omega)
    omega

theorem sorted_ext {A : Type} : ∀ {l m : List (Nat × A)}, (l.Pairwise fun p q => p.1 < q.1) → (m.Pairwise fun p q => p.1 < q.1) → (∀ p, p ∈ l ↔ p ∈ m) → l = m
  | [], [], _, _, _ => rfl
  | [], q :: m, _, _, h => absurd ((h q).mpr (List.mem_cons_self ..)) (by simp)
  | p :: l, [], _, _, h => absurd ((h p).mp (List.mem_cons_self ..)) (by simp)
  | p :: l, q :: m, hl, hm, h => by
    rw [List.pairwise_cons] at hl hm
    have e : p = q := by
      rcases List.mem_cons.mp ((h p).mp (List.mem_cons_self ..)) with z | z
      · exact z
      · rcases List.mem_cons.mp ((h q).mpr (List.mem_cons_self ..)) with y | y
        · exact y.symm
        · have := hm.1 p z
          have := hl.1 q y
          omega
    subst e
    refine congrArg _ (sorted_ext hl.2 hm.2 fun x => ?_)
    have hx := h x
    rw [List.mem_cons, List.mem_cons] at hx
    constructor
    · intro y
      rcases hx.mp (.inr y) with z | z
      · subst z
        have := hl.1 x y
        omega
      · exact z
    · intro y
      rcases hx.mpr (.inr y) with z | z
      · subst z
        have := hm.1 x y
        omega
      · exact z

theorem pairs_eq_iff {A : Type} {s t : T A} (ws : WF s) (wt : WF t) : pairs s = pairs t ↔ ∀ k, get s k = get t k := by
  constructor
  · intro h k
    cases e : get s k with
    | none =>
      cases e2 : get t k with
      | none => rfl
      | some y =>
        have := (mem_pairs wt k y).mpr e2
        rw [← h, mem_pairs ws, e] at this
        cases this
    | some x =>
      have := (mem_pairs ws k x).mpr e
      rw [h, mem_pairs wt] at this
      exact this.symm
  · intro h
    refine sorted_ext (pairs_sorted ws) (pairs_sorted wt) fun p => ?_
    rw [show p = (p.1, p.2) from rfl, mem_pairs ws, mem_pairs wt, h]
end GT
set_option linter.unusedVariables false
namespace GT
open Vbwsar

/-! # Where cells lie -/
theorem key_lt {g : Ground} {x y z : Nat} (hx : x < g.sx) (hy : y < g.sy) (hz : z < g.sz) : keyOf g ⟨x, y, z⟩ < size g := by
  show (z * g.sy + y) * g.sx + x < g.sx * (g.sy * g.sz)
  have h1 : z * g.sy + y + 1 ≤ g.sy * g.sz := by
    have : (z + 1) * g.sy ≤ g.sz * g.sy := Nat.mul_le_mul_right _ hz
    rw [Nat.add_mul, Nat.one_mul, Nat.mul_comm g.sz] at this
    omega
  have h2 : (z * g.sy + y + 1) * g.sx ≤ g.sy * g.sz * g.sx := Nat.mul_le_mul_right _ h1
  rw [Nat.add_mul, Nat.one_mul, Nat.mul_comm _ g.sx, Nat.mul_comm _ g.sx] at h2
  rw [Nat.mul_comm _ g.sx]
  omega
theorem key_mod {g : Ground} {x y z : Nat} (hx : x < g.sx) : keyOf g ⟨x, y, z⟩ % g.sx = x := by
  show ((z * g.sy + y) * g.sx + x) % g.sx = x
  rw [Nat.mul_comm, Nat.mul_add_mod, Nat.mod_eq_of_lt hx]
theorem key_div {g : Ground} {x y z : Nat} (hx : x < g.sx) : keyOf g ⟨x, y, z⟩ / g.sx = z * g.sy + y := by
  show ((z * g.sy + y) * g.sx + x) / g.sx = _
  rw [Nat.mul_comm, Nat.mul_add_div (by omega), Nat.div_eq_of_lt hx, Nat.add_zero]
theorem key_y {g : Ground} {x y z : Nat} (hx : x < g.sx) (hy : y < g.sy) : keyOf g ⟨x, y, z⟩ / g.sx % g.sy = y := by
  rw [key_div hx, Nat.mul_comm, Nat.mul_add_mod, Nat.mod_eq_of_lt hy]
theorem key_z {g : Ground} {x y z : Nat} (hx : x < g.sx) (hy : y < g.sy) : keyOf g ⟨x, y, z⟩ / g.sx / g.sy = z := by
  rw [key_div hx, Nat.mul_comm, Nat.mul_add_div (by omega), Nat.div_eq_of_lt hy, Nat.add_zero]
theorem key_cell {g : Ground} {x y z : Nat} (hx : x < g.sx) (hy : y < g.sy) : cellAt g (keyOf g ⟨x, y, z⟩) = ⟨x, y, z⟩ := by
  unfold cellAt
  rw [key_mod hx, key_y hx hy, key_z hx hy]
theorem key_inj {g : Ground} {x y z x' y' z' : Nat} (hx : x < g.sx) (hy : y < g.sy) (hx' : x' < g.sx) (hy' : y' < g.sy)
    (h : keyOf g ⟨x, y, z⟩ = keyOf g ⟨x', y', z'⟩) : x = x' ∧ y = y' ∧ z = z' := by
  have a := key_mod (g := g) (y := y) (z := z) hx
  have b := key_y (g := g) (z := z) hx hy
  have c := key_z (g := g) (z := z) hx hy
  rw [h] at a b c
  rw [key_mod hx'] at a
  rw [key_y hx' hy'] at b
  rw [key_z hx' hy'] at c
  exact ⟨a.symm, b.symm, c.symm⟩
theorem cell_key {g : Ground} {k : Nat} : keyOf g (cellAt g k) = k := by
  show (k / g.sx / g.sy * g.sy + k / g.sx % g.sy) * g.sx + k % g.sx = k
  have h1 : k / g.sx / g.sy * g.sy + k / g.sx % g.sy = k / g.sx := by
    have := Nat.div_add_mod (k / g.sx) g.sy
    rw [Nat.mul_comm] at this
    exact this
  rw [h1]
  have := Nat.div_add_mod k g.sx
  rw [Nat.mul_comm] at this
  exact this
theorem coords {g : Ground} {k : Nat} (h : k < size g) : ∃ x y z, x < g.sx ∧ y < g.sy ∧ z < g.sz ∧ k = keyOf g ⟨x, y, z⟩ := by
  refine ⟨k % g.sx, k / g.sx % g.sy, k / g.sx / g.sy, ?_, ?_, ?_, cell_key.symm⟩
  · apply Nat.mod_lt
    apply Nat.pos_of_ne_zero
    intro e
    unfold size at h
    rw [e, Nat.zero_mul] at h
    omega
  · apply Nat.mod_lt
    apply Nat.pos_of_ne_zero
    intro e
    unfold size at h
    rw [e, Nat.zero_mul, Nat.mul_zero] at h
    omega
  · unfold size at h
    have h1 : k / g.sx < g.sy * g.sz := Nat.div_lt_of_lt_mul h
    exact Nat.div_lt_of_lt_mul h1

/-! ## Below, above, beside, around, in coordinates -/
theorem key_up {g : Ground} {x y z : Nat} : keyOf g ⟨x, y, z + 1⟩ = keyOf g ⟨x, y, z⟩ + g.sx * g.sy := by
  show ((z + 1) * g.sy + y) * g.sx + x = (z * g.sy + y) * g.sx + x + g.sx * g.sy
  have : ((z + 1) * g.sy + y) * g.sx = (z * g.sy + y) * g.sx + g.sx * g.sy := by
    rw [Nat.add_mul z 1, Nat.one_mul, Nat.add_right_comm, Nat.add_mul, Nat.mul_comm g.sy g.sx]
  omega
theorem key_back {g : Ground} {x y z : Nat} : keyOf g ⟨x, y + 1, z⟩ = keyOf g ⟨x, y, z⟩ + g.sx := by
  show (z * g.sy + (y + 1)) * g.sx + x = (z * g.sy + y) * g.sx + x + g.sx
  have : (z * g.sy + (y + 1)) * g.sx = (z * g.sy + y) * g.sx + g.sx := by
    rw [← Nat.add_assoc, Nat.add_mul (z * g.sy + y) 1, Nat.one_mul]
  omega
theorem key_right {g : Ground} {x y z : Nat} : keyOf g ⟨x + 1, y, z⟩ = keyOf g ⟨x, y, z⟩ + 1 := rfl

theorem below_key {g : Ground} {x y z : Nat} (hx : x < g.sx) (hy : y < g.sy) : below g (keyOf g ⟨x, y, z⟩) = if 0 < z then some (keyOf g ⟨x, y, z - 1⟩) else none := by
  unfold below
  rw [key_z hx hy]
  by_cases h : 0 < z
  · rw [if_pos h, if_pos h]
    obtain ⟨w, rfl⟩ : ∃ w, z = w + 1 := ⟨z - 1, by omega⟩
    rw [key_up, Nat.add_sub_cancel, Nat.add_sub_cancel]
  · rw [if_neg h, if_neg h]
theorem above_key {g : Ground} {x y z : Nat} (hx : x < g.sx) (hy : y < g.sy) : above g (keyOf g ⟨x, y, z⟩) = if z + 1 < g.sz then some (keyOf g ⟨x, y, z + 1⟩) else none := by
  unfold above
  rw [key_z hx hy, key_up]
theorem beside_key {g : Ground} {x y z : Nat} (hx : x < g.sx) (hy : y < g.sy) : beside g (keyOf g ⟨x, y, z⟩) =
    (if 0 < x then [keyOf g ⟨x - 1, y, z⟩] else []) ++ ((if x + 1 < g.sx then [keyOf g ⟨x + 1, y, z⟩] else []) ++ ((if 0 < y then [keyOf g ⟨x, y - 1, z⟩] else []) ++ if y + 1 < g.sy then [keyOf g ⟨x, y + 1, z⟩] else [])) := by
  unfold beside
  dsimp only
  rw [key_mod hx, key_y hx hy, key_back, key_right]
  congr 1
  · by_cases h : 0 < x
    · rw [if_pos h, if_pos h]
      obtain ⟨w, rfl⟩ : ∃ w, x = w + 1 := ⟨x - 1, by omega⟩
      rfl
    · rw [if_neg h, if_neg h]
  · congr 2
    by_cases h : 0 < y
    · rw [if_pos h, if_pos h]
      obtain ⟨w, rfl⟩ : ∃ w, y = w + 1 := ⟨y - 1, by omega⟩
      rw [key_back, Nat.add_sub_cancel, Nat.add_sub_cancel]
    · rw [if_neg h, if_neg h]

/-- one step along one side -/
def Step (x y z x' y' z' : Nat) : Prop :=
  (x' = x ∧ y' = y ∧ (z' + 1 = z ∨ z' = z + 1)) ∨ (x' = x ∧ z' = z ∧ (y' + 1 = y ∨ y' = y + 1)) ∨ (y' = y ∧ z' = z ∧ (x' + 1 = x ∨ x' = x + 1))
theorem Step.symm {x y z x' y' z' : Nat} (h : Step x y z x' y' z') : Step x' y' z' x y z := by
  unfold Step at *
  omega

theorem mem_beside {g : Ground} {x y z j : Nat} (hx : x < g.sx) (hy : y < g.sy) : j ∈ beside g (keyOf g ⟨x, y, z⟩) ↔
    ((0 < x ∧ j = keyOf g ⟨x - 1, y, z⟩) ∨ (x + 1 < g.sx ∧ j = keyOf g ⟨x + 1, y, z⟩) ∨ (0 < y ∧ j = keyOf g ⟨x, y - 1, z⟩) ∨ (y + 1 < g.sy ∧ j = keyOf g ⟨x, y + 1, z⟩)) := by
  rw [beside_key hx hy]
  have one : ∀ (c : Prop) [Decidable c] (a : Nat), j ∈ (if c then [a] else []) ↔ (c ∧ j = a) := fun c _ a => by
    by_cases h : c
    · rw [if_pos h]
      simp [h]
    · rw [if_neg h]
      simp [h]
  rw [List.mem_append, List.mem_append, List.mem_append, one, one, one, one]

theorem mem_around {g : Ground} {x y z j : Nat} (hx : x < g.sx) (hy : y < g.sy) (hz : z < g.sz) : j ∈ around g (keyOf g ⟨x, y, z⟩) ↔
    ∃ x' y' z', x' < g.sx ∧ y' < g.sy ∧ z' < g.sz ∧ j = keyOf g ⟨x', y', z'⟩ ∧ Step x y z x' y' z' := by
  unfold around
  rw [List.mem_append, List.mem_append, mem_beside hx hy, below_key hx hy, above_key hx hy]
  have one : ∀ (c : Prop) [Decidable c] (a : Nat), j ∈ (if c then some a else none : Option Nat).toList ↔ (c ∧ j = a) := fun c _ a => by
    by_cases h : c
    · rw [if_pos h]
      simp [h]
    · rw [if_neg h]
      simp [h]
  rw [one, one]
  constructor
  · rintro (⟨h, e⟩ | (⟨h, e⟩ | ⟨h, e⟩ | ⟨h, e⟩ | ⟨h, e⟩) | ⟨h, e⟩)
    · exact ⟨x, y, z - 1, hx, hy, by omega, e, by unfold Step; omega⟩
    · exact ⟨x - 1, y, z, by omega, hy, hz, e, by unfold Step; omega⟩
    · exact ⟨x + 1, y, z, h, hy, hz, e, by unfold Step; omega⟩
    · exact ⟨x, y - 1, z, hx, by omega, hz, e, by unfold Step; omega⟩
    · exact ⟨x, y + 1, z, hx, h, hz, e, by unfold Step; omega⟩
    · exact ⟨x, y, z + 1, hx, hy, h, e, by unfold Step; omega⟩
  · rintro ⟨x', y', z', hx', hy', hz', rfl, h⟩
    rcases h with ⟨rfl, rfl, h | rfl⟩ | ⟨rfl, rfl, h | rfl⟩ | ⟨rfl, rfl, h | rfl⟩
    · subst h
      exact .inl ⟨by omega, rfl⟩
    · exact .inr (.inr ⟨hz', rfl⟩)
    · subst h
      exact .inr (.inl (.inr (.inr (.inl ⟨by omega, rfl⟩))))
    · exact .inr (.inl (.inr (.inr (.inr ⟨hy', rfl⟩))))
    · subst h
      exact .inr (.inl (.inl ⟨by omega, rfl⟩))
    · exact .inr (.inl (.inr (.inl ⟨hx', rfl⟩)))

theorem around_lt {g : Ground} {k j : Nat} (hk : k < size g) (h : j ∈ around g k) : j < size g := by
  obtain ⟨x, y, z, hx, hy, hz, rfl⟩ := coords hk
  obtain ⟨x', y', z', hx', hy', hz', rfl, _⟩ := (mem_around hx hy hz).mp h
  exact key_lt hx' hy' hz'
theorem around_symm {g : Ground} {k j : Nat} (hk : k < size g) (h : j ∈ around g k) : k ∈ around g j := by
  obtain ⟨x, y, z, hx, hy, hz, rfl⟩ := coords hk
  obtain ⟨x', y', z', hx', hy', hz', rfl, s⟩ := (mem_around hx hy hz).mp h
  exact (mem_around hx' hy' hz').mpr ⟨x, y, z, hx, hy, hz, rfl, s.symm⟩
theorem beside_around {g : Ground} {k j : Nat} (h : j ∈ beside g k) : j ∈ around g k := by
  unfold around
  rw [List.mem_append, List.mem_append]
  exact .inr (.inl h)
theorem below_around {g : Ground} {k j : Nat} (h : below g k = some j) : j ∈ around g k := by
  unfold around
  rw [List.mem_append, h]
  exact .inl (by simp)
theorem below_lt {g : Ground} {k j : Nat} (hk : k < size g) (h : below g k = some j) : j < k := by
  obtain ⟨x, y, z, hx, hy, hz, rfl⟩ := coords hk
  rw [below_key hx hy] at h
  by_cases c : 0 < z
  · rw [if_pos c] at h
    injection h with h
    subst h
    obtain ⟨w, rfl⟩ : ∃ w, z = w + 1 := ⟨z - 1, by omega⟩
    rw [key_up, Nat.add_sub_cancel]
    have : 0 < g.sx * g.sy := Nat.mul_pos (by omega) (by omega)
    omega
  · rw [if_neg c] at h
    cases h

/-! ## How far apart cells are -/
theorem apart_key {g : Ground} {x y z x' y' z' : Nat} (hx : x < g.sx) (hy : y < g.sy) (hx' : x' < g.sx) (hy' : y' < g.sy) :
    apart g (keyOf g ⟨x, y, z⟩) (keyOf g ⟨x', y', z'⟩) = (x - x') + (x' - x) + ((y - y') + (y' - y) + ((z - z') + (z' - z))) := by
  unfold apart
  rw [key_cell hx hy, key_cell hx' hy']
theorem apart_step {g : Ground} {c k j : Nat} (hc : c < size g) (hk : k < size g) (h : j ∈ around g k) : apart g c k ≤ apart g c j + 1 := by
  obtain ⟨x, y, z, hx, hy, hz, rfl⟩ := coords hk
  obtain ⟨a, b, d, ha, hb, hd, rfl⟩ := coords hc
  obtain ⟨x', y', z', hx', hy', hz', rfl, s⟩ := (mem_around hx hy hz).mp h
  rw [apart_key ha hb hx hy, apart_key ha hb hx' hy']
  have ad : ∀ a x x' : Nat, (x' + 1 = x ∨ x' = x + 1) → (a - x) + (x - a) ≤ (a - x') + (x' - a) + 1 := fun a x x' h => by omega
  rcases s with ⟨rfl, rfl, q⟩ | ⟨rfl, rfl, q⟩ | ⟨rfl, rfl, q⟩
  · have := ad d z z' q
    omega
  · have := ad b y y' q
    omega
  · have := ad a x x' q
    omega
theorem apart_self {g : Ground} {c : Nat} : apart g c c = 0 := by
  unfold apart
  dsimp only
  omega

/-! ## A column from a cell down -/
theorem downFrom_key {g : Ground} {x y : Nat} (hx : x < g.sx) (hy : y < g.sy) : ∀ (n z : Nat), z ≤ n → ∀ j, j ∈ downFrom g n (keyOf g ⟨x, y, z⟩) ↔ ∃ z', z' ≤ z ∧ j = keyOf g ⟨x, y, z'⟩
  | 0, z, h, j => by
    have : z = 0 := by omega
    subst this
    show j ∈ [_] ↔ _
    rw [List.mem_singleton]
    constructor
    · exact fun e => ⟨0, Nat.le_refl _, e⟩
    · rintro ⟨z', q, e⟩
      have : z' = 0 := by omega
      subst this
      exact e
  | n + 1, z, h, j => by
    unfold downFrom
    rw [below_key hx hy]
    by_cases c : 0 < z
    · rw [if_pos c]
      show j ∈ _ :: _ ↔ _
      rw [List.mem_cons, downFrom_key hx hy n (z - 1) (by omega)]
      constructor
      · rintro (e | ⟨z', q, e⟩)
        · exact ⟨z, Nat.le_refl _, e⟩
        · exact ⟨z', by omega, e⟩
      · rintro ⟨z', q, e⟩
        by_cases w : z' = z
        · subst w
          exact .inl e
        · exact .inr ⟨z', by omega, e⟩
    · rw [if_neg c]
      show j ∈ [_] ↔ _
      have : z = 0 := by omega
      subst this
      rw [List.mem_singleton]
      constructor
      · exact fun e => ⟨0, Nat.le_refl _, e⟩
      · rintro ⟨z', q, e⟩
        have : z' = 0 := by omega
        subst this
        exact e
end GT
set_option linter.unusedVariables false
namespace GT
open Vbwsar
open Vbwsae (T)

/-! # Maps that keep only what isn't 0 -/
/-- what a map holds, 0 where nothing is kept -/
def at0 (t : T Nat) (k : Nat) : Nat := (Vbwsae.get t k).getD 0
structure WT (t : T Nat) : Prop where
  wf : WF t
  nz : ∀ k, Vbwsae.get t k ≠ some 0
theorem WT.none : WT .none := ⟨trivial, fun k h => by cases h⟩
theorem at0_none (k : Nat) : at0 .none k = 0 := rfl
theorem write_wt {t : T Nat} {k v : Nat} (w : WT t) (hk : k < 2 ^ 40) : WT (write t k v) ∧ ∀ j, at0 (write t k v) j = if j = k then v else at0 t j := by
  unfold write
  by_cases c : v = 0
  · rw [if_pos c]
    have d := del_all (k := k) w.wf
    refine ⟨⟨d.1, fun j h => ?_⟩, fun j => ?_⟩
    · rw [d.2.2 j] at h
      split at h
      · cases h
      · exact w.nz j h
    · unfold at0
      rw [d.2.2 j]
      split
      · rw [c]
        rfl
      · rfl
  · rw [if_neg c]
    have d := put_all (x := v) hk w.wf
    refine ⟨⟨d.1, fun j h => ?_⟩, fun j => ?_⟩
    · rw [d.2.2 j] at h
      split at h
      · injection h with h
        exact c h
      · exact w.nz j h
    · unfold at0
      rw [d.2.2 j]
      split <;> rfl
theorem del_wt {t : T Nat} {k : Nat} (w : WT t) : WT (Vbwsae.del k t) ∧ ∀ j, at0 (Vbwsae.del k t) j = if j = k then 0 else at0 t j := by
  have d := del_all (k := k) w.wf
  refine ⟨⟨d.1, fun j h => ?_⟩, fun j => ?_⟩
  · rw [d.2.2 j] at h
    split at h
    · cases h
    · exact w.nz j h
  · unfold at0
    rw [d.2.2 j]
    split <;> rfl
theorem get_of_at0 {s t : T Nat} (ws : WT s) (wt : WT t) (k : Nat) : Vbwsae.get s k = Vbwsae.get t k ↔ at0 s k = at0 t k := by
  unfold at0
  constructor
  · intro h
    rw [h]
  · intro h
    have a := ws.nz k
    have b := wt.nz k
    revert h a b
    cases Vbwsae.get s k with
    | none => cases Vbwsae.get t k with
      | none => intros; rfl
      | some y =>
        intro h a b
        have : 0 = y := h
        subst this
        exact absurd rfl b
    | some x => cases Vbwsae.get t k with
      | none =>
        intro h a b
        have : x = 0 := h
        subst this
        exact absurd rfl a
      | some y =>
        intro h a b
        have : x = y := h
        rw [this]
theorem same_iff {s t : T Nat} (ws : WT s) (wt : WT t) : Vbwsar.same s t = true ↔ ∀ k, at0 s k = at0 t k := by
  unfold Vbwsar.same
  rw [beq_iff_eq, pairs_eq_iff ws.wf wt.wf]
  exact ⟨fun h k => (get_of_at0 ws wt k).mp (h k), fun h k => (get_of_at0 ws wt k).mpr (h k)⟩

/-! # Light -/
theorem foldl_max_le {f : Nat → Nat} : ∀ (l : List Nat) (s v : Nat), v ≤ l.foldl (fun m j => max m (f j)) s ↔ (v ≤ s ∨ ∃ j ∈ l, v ≤ f j)
  | [], s, v => by simp
  | a :: l, s, v => by
    rw [List.foldl_cons, foldl_max_le l]
    constructor
    · rintro (h | ⟨j, h, q⟩)
      · by_cases c : v ≤ s
        · exact .inl c
        · exact .inr ⟨a, List.mem_cons_self .., by omega⟩
      · exact .inr ⟨j, List.mem_cons_of_mem _ h, q⟩
    · rintro (h | ⟨j, h, q⟩)
      · exact .inl (by omega)
      · rcases List.mem_cons.mp h with e | e
        · subst e
          exact .inl (by omega)
        · exact .inr ⟨j, e, q⟩

/-- what a cell's light is by that of the cells about it -/
def LF (g : Ground) (L : Nat → Nat) (k : Nat) : Nat := if clear (matAt g k) = false then 0 else (around g k).foldl (fun m j => max m (L j - 1)) (source g k)
theorem LF_ge {g : Ground} {L : Nat → Nat} {k v : Nat} (h : 1 ≤ v) : v ≤ LF g L k ↔ (clear (matAt g k) = true ∧ (v ≤ source g k ∨ ∃ j ∈ around g k, v + 1 ≤ L j)) := by
  unfold LF
  cases c : clear (matAt g k) with
  | false =>
    rw [if_pos rfl]
    constructor
    · intro h
      omega
    · rintro ⟨q, _⟩
      cases q
  | true =>
    rw [if_neg (by simp), foldl_max_le]
    constructor
    · rintro (q | ⟨j, a, b⟩)
      · exact ⟨rfl, .inl q⟩
      · exact ⟨rfl, .inr ⟨j, a, by omega⟩⟩
    · rintro ⟨_, q | ⟨j, a, b⟩⟩
      · exact .inl q
      · exact .inr ⟨j, a, by omega⟩
theorem source_le {g : Ground} {k : Nat} : source g k ≤ 15 := by
  unfold source SUN GLOW
  split
  · omega
  · split <;> omega

/-- the light of a ground: within it the cells' own rule, none outside, no more than the sky's -/
structure IsLight (g : Ground) (L : Nat → Nat) : Prop where
  rule : ∀ k, k < size g → L k = LF g L k
  out : ∀ k, size g ≤ k → L k = 0
  most : ∀ k, L k ≤ 15

theorem eq_of_ge {a b : Nat} (h : ∀ v, 1 ≤ v → (v ≤ a ↔ v ≤ b)) : a = b := by
  apply Nat.le_antisymm
  · by_cases c : a = 0
    · omega
    · exact (h a (by omega)).mp (Nat.le_refl _)
  · by_cases c : b = 0
    · omega
    · exact (h b (by omega)).mpr (Nat.le_refl _)

theorem light_le {g : Ground} {L L' : Nat → Nat} (a : IsLight g L) (b : IsLight g L') : ∀ (d v k : Nat), 1 ≤ v → 16 ≤ v + d → v ≤ L k → v ≤ L' k
  | 0, v, k, hv, hd, h => by
    have := a.most k
    omega
  | d + 1, v, k, hv, hd, h => by
    by_cases c : k < size g
    · rw [a.rule k c, LF_ge hv] at h
      rw [b.rule k c, LF_ge hv]
      obtain ⟨h1, h2 | ⟨j, h2, h3⟩⟩ := h
      · exact ⟨h1, .inl h2⟩
      · exact ⟨h1, .inr ⟨j, h2, light_le a b d (v + 1) j (by omega) (by omega) h3⟩⟩
    · rw [a.out k (by omega)] at h
      omega
theorem light_unique {g : Ground} {L L' : Nat → Nat} (a : IsLight g L) (b : IsLight g L') : L = L' := by
  funext k
  exact eq_of_ge fun v hv => ⟨light_le a b 16 v k hv (by omega), light_le b a 16 v k hv (by omega)⟩

/-! ## There is such a light: sixteen rounds from nothing -/
def itL (g : Ground) : Nat → Nat → Nat
  | 0, _ => 0
  | n + 1, k => if k < size g then LF g (itL g n) k else 0
theorem itL_most {g : Ground} : ∀ (n k : Nat), itL g n k ≤ 15
  | 0, _ => Nat.zero_le _
  | n + 1, k => by
    apply Classical.byContradiction
    intro q
    have h : 16 ≤ itL g (n + 1) k := by omega
    unfold itL at h
    split at h
    · rw [LF_ge (by omega)] at h
      obtain ⟨_, h | ⟨j, _, h⟩⟩ := h
      · have := source_le (g := g) (k := k)
        omega
      · have := itL_most (g := g) n j
        omega
    · omega
theorem itL_up {g : Ground} : ∀ (n k v : Nat), 1 ≤ v → v ≤ itL g n k → v ≤ itL g (n + 1) k
  | 0, k, v, hv, h => by
    have : v ≤ 0 := h
    omega
  | n + 1, k, v, hv, h => by
    have h' : v ≤ (if k < size g then LF g (itL g n) k else 0) := h
    show v ≤ (if k < size g then LF g (itL g (n + 1)) k else 0)
    split at h'
    · rename_i c
      rw [if_pos c, LF_ge hv]
      rw [LF_ge hv] at h'
      obtain ⟨h1, h2 | ⟨j, h2, h3⟩⟩ := h'
      · exact ⟨h1, .inl h2⟩
      · exact ⟨h1, .inr ⟨j, h2, itL_up n j (v + 1) (by omega) h3⟩⟩
    · omega
theorem itL_stays {g : Ground} : ∀ (n k v : Nat), 1 ≤ v → 16 ≤ v + n → v ≤ itL g (n + 1) k → v ≤ itL g n k
  | 0, k, v, hv, hn, h => by
    have := itL_most (g := g) 1 k
    have h' : v ≤ itL g 1 k := h
    omega
  | n + 1, k, v, hv, hn, h => by
    have h' : v ≤ (if k < size g then LF g (itL g (n + 1)) k else 0) := h
    show v ≤ (if k < size g then LF g (itL g n) k else 0)
    split at h'
    · rename_i c
      rw [if_pos c, LF_ge hv]
      rw [LF_ge hv] at h'
      obtain ⟨h1, h2 | ⟨j, h2, h3⟩⟩ := h'
      · exact ⟨h1, .inl h2⟩
      · exact ⟨h1, .inr ⟨j, h2, itL_stays n j (v + 1) (by omega) (by omega) h3⟩⟩
    · omega
/-- the light of a ground -/
def lightOf (g : Ground) : Nat → Nat := itL g 15
theorem itL_fix {g : Ground} : itL g 16 = itL g 15 := by
  funext k
  exact eq_of_ge fun v hv => ⟨fun h => itL_stays 15 k v hv (by omega) h, fun h => itL_up 15 k v hv h⟩
theorem lightOf_is (g : Ground) : IsLight g (lightOf g) := by
  refine ⟨fun k h => ?_, fun k h => ?_, fun k => itL_most 15 k⟩
  · show itL g 15 k = LF g (itL g 15) k
    rw [← itL_fix (g := g)]
    show (if k < size g then LF g (itL g 15) k else 0) = LF g (itL g 16) k
    rw [if_pos h, itL_fix]
  · show (if k < size g then LF g (itL g 14) k else 0) = 0
    rw [if_neg (by omega)]

/-! ## Rounds over some cells, the others lit right -/
theorem writes_at {f : Nat → Nat} : ∀ (l : List Nat) (u : T Nat), WT u → (∀ k ∈ l, k < 2 ^ 40) →
    WT (l.foldl (fun u k => write u k (f k)) u) ∧ ∀ j, at0 (l.foldl (fun u k => write u k (f k)) u) j = if j ∈ l then f j else at0 u j
  | [], u, w, _ => ⟨w, fun j => by simp⟩
  | a :: l, u, w, hl => by
    have d := write_wt (v := f a) w (hl a (List.mem_cons_self ..))
    have ih := writes_at (f := f) l _ d.1 fun k q => hl k (List.mem_cons_of_mem _ q)
    refine ⟨ih.1, fun j => ?_⟩
    rw [List.foldl_cons, ih.2 j, d.2 j]
    by_cases c : j ∈ l
    · rw [if_pos c, if_pos (List.mem_cons_of_mem _ c)]
    · rw [if_neg c]
      by_cases e : j = a
      · subst e
        rw [if_pos rfl, if_pos (List.mem_cons_self ..)]
      · rw [if_neg e, if_neg (by
          rw [List.mem_cons]
          rintro (z | z)
          · exact e z
          · exact c z)]
theorem foldl_same {A B : Type} {f g : A → B → A} (h : ∀ a b, f a b = g a b) : ∀ (l : List B) (a : A), l.foldl f a = l.foldl g a
  | [], _ => rfl
  | b :: l, a => by rw [List.foldl_cons, List.foldl_cons, h, foldl_same h l]
theorem round_at {g : Ground} {l : List Nat} {t : T Nat} (w : WT t) (hl : ∀ k ∈ l, k < 2 ^ 40) :
    WT (round g l t) ∧ ∀ j, at0 (round g l t) j = if j ∈ l then LF g (at0 t) j else at0 t j := by
  have e : round g l t = l.foldl (fun u k => write u k (LF g (at0 t) k)) t := by
    unfold round
    refine foldl_same (fun u k => ?_) l t
    unfold LF
    split <;> rfl
  rw [e]
  exact writes_at l t w hl
/-- how far rounds have come -/
structure Come (g : Ground) (L : Nat → Nat) (l : List Nat) (n : Nat) (t : T Nat) : Prop where
  wt : WT t
  off : ∀ k, k ∉ l → at0 t k = L k
  le : ∀ k, at0 t k ≤ L k
  ge : ∀ k v, 1 ≤ v → 16 ≤ v + n → v ≤ L k → v ≤ at0 t k
theorem Come.round {g : Ground} {L : Nat → Nat} {l : List Nat} {n : Nat} {t : T Nat} (hL : IsLight g L) (hl : ∀ k ∈ l, k < size g) (hs : size g < 2 ^ 40) (h : Come g L l n t) : Come g L l (n + 1) (Vbwsar.round g l t) := by
  have r := round_at (g := g) h.wt (fun k q => Nat.lt_trans (hl k q) hs)
  refine ⟨r.1, fun k q => ?_, fun k => ?_, fun k v hv hn hk => ?_⟩
  · rw [r.2 k, if_neg q, h.off k q]
  · rw [r.2 k]
    split
    · rename_i q
      rw [hL.rule k (hl k q)]
      apply Classical.byContradiction
      intro c
      have hv : 1 ≤ LF g (at0 t) k := by omega
      have h1 := (LF_ge hv).mp (Nat.le_refl _)
      refine c ((LF_ge hv).mpr ⟨h1.1, ?_⟩)
      rcases h1.2 with z | ⟨j, z, y⟩
      · exact .inl z
      · exact .inr ⟨j, z, Nat.le_trans y (h.le j)⟩
    · exact h.le k
  · rw [r.2 k]
    split
    · rename_i q
      rw [hL.rule k (hl k q), LF_ge hv] at hk
      rw [LF_ge hv]
      refine ⟨hk.1, ?_⟩
      rcases hk.2 with z | ⟨j, z, y⟩
      · exact .inl z
      · exact .inr ⟨j, z, h.ge j (v + 1) (by omega) (by omega) y⟩
    · rename_i q
      rw [h.off k q]
      exact hk
theorem Come.rounds {g : Ground} {L : Nat → Nat} {l : List Nat} (hL : IsLight g L) (hl : ∀ k ∈ l, k < size g) (hs : size g < 2 ^ 40) :
    ∀ (m n : Nat) (t : T Nat), Come g L l n t → Come g L l (n + m) (Vbwsar.rounds g l m t)
  | 0, n, t, h => h
  | m + 1, n, t, h => by
    have := Come.rounds hL hl hs m (n + 1) _ (h.round hL hl hs)
    rw [show n + (m + 1) = n + 1 + m by omega]
    exact this
theorem rounds_light {g : Ground} {L : Nat → Nat} {l : List Nat} {t : T Nat} (hL : IsLight g L) (hl : ∀ k ∈ l, k < size g) (hs : size g < 2 ^ 40)
    (w : WT t) (off : ∀ k, k ∉ l → at0 t k = L k) (on : ∀ k ∈ l, at0 t k = 0) : WT (rounds g l 16 t) ∧ ∀ k, at0 (rounds g l 16 t) k = L k := by
  have c0 : Come g L l 0 t := ⟨w, off, fun k => by
    by_cases q : k ∈ l
    · rw [on k q]
      omega
    · rw [off k q]
      exact Nat.le_refl _, fun k v hv hn hk => by
    have := hL.most k
    omega⟩
  have c := c0.rounds hL hl hs 16
  refine ⟨c.wt, fun k => Nat.le_antisymm (c.le k) ?_⟩
  by_cases z : L k = 0
  · omega
  · exact c.ge k (L k) (by omega) (by omega) (Nat.le_refl _)
theorem plain_light {g : Ground} (hs : size g < 2 ^ 40) : WT (plainLight g) ∧ ∀ k, at0 (plainLight g) k = lightOf g k := by
  refine rounds_light (lightOf_is g) (fun k h => List.mem_range.mp h) hs WT.none (fun k h => ?_) fun k h => at0_none k
  rw [(lightOf_is g).out k (by
    apply Classical.byContradiction
    intro z
    exact h (List.mem_range.mpr (by omega)))]
  exact at0_none k

/-! ## Light put right near changes -/
theorem openUp_key {g : Ground} {x y : Nat} (hx : x < g.sx) (hy : y < g.sy) : ∀ (n z : Nat), openUp g n (keyOf g ⟨x, y, z⟩) = true ↔ ∀ z', z < z' → z' ≤ z + n → z' < g.sz → clear (matAt g (keyOf g ⟨x, y, z'⟩)) = true
  | 0, z => by
    unfold openUp
    constructor
    · intro _ z' a b c
      omega
    · intro _
      rfl
  | n + 1, z => by
    unfold openUp
    rw [above_key hx hy]
    by_cases c : z + 1 < g.sz
    · rw [if_pos c]
      show (clear _ && openUp g n _) = true ↔ _
      rw [Bool.and_eq_true, openUp_key hx hy n (z + 1)]
      constructor
      · rintro ⟨h1, h2⟩ z' a b d
        by_cases e : z' = z + 1
        · subst e
          exact h1
        · exact h2 z' (by omega) (by omega) d
      · intro h
        exact ⟨h (z + 1) (by omega) (by omega) c, fun z' a b d => h z' (by omega) (by omega) d⟩
    · rw [if_neg c]
      constructor
      · intro _ z' a b d
        omega
      · intro _
        rfl
theorem sky_key {g : Ground} {x y z : Nat} (hx : x < g.sx) (hy : y < g.sy) : skyLit g (keyOf g ⟨x, y, z⟩) = true ↔ (clear (matAt g (keyOf g ⟨x, y, z⟩)) = true ∧ ∀ z', z < z' → z' < g.sz → clear (matAt g (keyOf g ⟨x, y, z'⟩)) = true) := by
  unfold skyLit
  rw [Bool.and_eq_true, openUp_key hx hy]
  constructor
  · rintro ⟨h1, h2⟩
    exact ⟨h1, fun z' a b => h2 z' a (by omega) b⟩
  · rintro ⟨h1, h2⟩
    exact ⟨h1, fun z' a _ b => h2 z' a b⟩

/-- with a cell those below it -/
def Down (g : Ground) (l : List Nat) : Prop := ∀ x y z z', x < g.sx → y < g.sy → z < g.sz → z' ≤ z → keyOf g ⟨x, y, z⟩ ∈ l → keyOf g ⟨x, y, z'⟩ ∈ l

/-- two grounds of one form, whose materials are alike but for some cells -/
structure Alike (g h : Ground) (l : List Nat) : Prop where
  x : h.sx = g.sx
  y : h.sy = g.sy
  z : h.sz = g.sz
  mat : ∀ k, k < size g → k ∉ l → matAt h k = matAt g k
theorem Alike.key {g h : Ground} {l : List Nat} (a : Alike g h l) (c : Cell) : keyOf h c = keyOf g c := by
  unfold keyOf
  rw [a.x, a.y]
theorem Alike.size {g h : Ground} {l : List Nat} (a : Alike g h l) : Vbwsar.size h = Vbwsar.size g := by
  unfold Vbwsar.size
  rw [a.x, a.y, a.z]
theorem Alike.around {g h : Ground} {l : List Nat} (a : Alike g h l) (k : Nat) : Vbwsar.around h k = Vbwsar.around g k := by
  unfold Vbwsar.around Vbwsar.below Vbwsar.beside Vbwsar.above
  rw [a.x, a.y, a.z]
theorem Alike.symm {g h : Ground} {l : List Nat} (a : Alike g h l) : Alike h g l :=
  ⟨a.x.symm, a.y.symm, a.z.symm, fun k q n => (a.mat k (by rw [← a.size]; exact q) n).symm⟩
theorem Alike.down {g h : Ground} {l : List Nat} (a : Alike g h l) (d : Down g l) : Down h l := by
  intro x y z z' hx hy hz q m
  rw [a.key] at m ⊢
  rw [a.x] at hx
  rw [a.y] at hy
  rw [a.z] at hz
  exact d x y z z' hx hy hz q m
theorem Alike.sky {g h : Ground} {l : List Nat} (a : Alike g h l) (d : Down g l) {k : Nat} (hk : k < Vbwsar.size g) (n : k ∉ l) : skyLit g k = true → skyLit h k = true := by
  obtain ⟨x, y, z, hx, hy, hz, rfl⟩ := coords hk
  intro s
  rw [sky_key hx hy] at s
  rw [← a.key, sky_key (by rw [a.x]; exact hx) (by rw [a.y]; exact hy), a.key]
  refine ⟨by rw [a.mat _ hk n]; exact s.1, fun z' q1 q2 => ?_⟩
  rw [a.z] at q2
  rw [a.key, a.mat _ (key_lt hx hy q2) fun m => n (d x y z' z hx hy q2 (by omega) m)]
  exact s.2 z' q1 q2
theorem Alike.source {g h : Ground} {l : List Nat} (a : Alike g h l) (d : Down g l) {k : Nat} (hk : k < Vbwsar.size g) (n : k ∉ l) : Vbwsar.source h k = Vbwsar.source g k := by
  unfold Vbwsar.source
  have e : skyLit h k = skyLit g k := by
    have p := a.sky d hk n
    have q := a.symm.sky (a.down d) (by rw [a.size]; exact hk) n
    cases c : skyLit g k with
    | true => exact p c
    | false => cases c2 : skyLit h k with
      | false => rfl
      | true =>
        rw [q c2] at c
        cases c
  rw [e, a.mat k hk n]

theorem far_ge {g h : Ground} {l : List Nat} (a : Alike g h l) (d : Down g l) (hl : ∀ c ∈ l, c < size g) {L L' : Nat → Nat} (hL : IsLight g L) (hL' : IsLight h L') :
    ∀ (n v k : Nat), 1 ≤ v → 16 ≤ v + n → k < size g → (∀ c ∈ l, 15 < v + apart g c k) → v ≤ L k → v ≤ L' k
  | 0, v, k, hv, hn, hk, far, q => by
    have := hL.most k
    omega
  | n + 1, v, k, hv, hn, hk, far, q => by
    by_cases big : 16 ≤ v
    · have := hL.most k
      omega
    have nl : k ∉ l := fun m => by
      have := far k m
      rw [apart_self] at this
      omega
    rw [hL.rule k hk, LF_ge hv] at q
    rw [hL'.rule k (by rw [a.size]; exact hk), LF_ge hv, a.mat k hk nl, a.source d hk nl, a.around]
    refine ⟨q.1, ?_⟩
    rcases q.2 with z | ⟨j, z, y⟩
    · exact .inl z
    · refine .inr ⟨j, z, far_ge a d hl hL hL' n (v + 1) j (by omega) (by omega) (around_lt hk z) (fun c m => ?_) y⟩
      have := far c m
      have := apart_step (hl c m) hk z
      omega
theorem Alike.apart {g h : Ground} {l : List Nat} (a : Alike g h l) (j k : Nat) : Vbwsar.apart h j k = Vbwsar.apart g j k := by
  unfold Vbwsar.apart Vbwsar.cellAt
  rw [a.x, a.y]

theorem dels_at : ∀ (l : List Nat) (t : T Nat), WT t → WT (l.foldl (fun t k => Vbwsae.del k t) t) ∧ ∀ j, at0 (l.foldl (fun t k => Vbwsae.del k t) t) j = if j ∈ l then 0 else at0 t j
  | [], t, w => ⟨w, fun j => by simp⟩
  | a :: l, t, w => by
    have d := del_wt (k := a) w
    have ih := dels_at l _ d.1
    refine ⟨ih.1, fun j => ?_⟩
    rw [List.foldl_cons, ih.2 j, d.2 j]
    by_cases c : j ∈ l
    · rw [if_pos c, if_pos (List.mem_cons_of_mem _ c)]
    · rw [if_neg c]
      by_cases e : j = a
      · subst e
        rw [if_pos rfl, if_pos (List.mem_cons_self ..)]
      · rw [if_neg e, if_neg (by
          rw [List.mem_cons]
          rintro (z | z)
          · exact e z
          · exact c z)]

/-- **light put right near changes is the light worked out from nothing**: h is what g became, with g's light still; l: the changed cells and those below them -/
theorem relit_light {g h : Ground} {l : List Nat} (a : Alike g h l) (d : Down g l) (hl : ∀ c ∈ l, c < size g) (hs : size g < 2 ^ 40)
    (w : WT h.light) (lit : ∀ k, at0 h.light k = lightOf g k) : WT (relit h l).light ∧ ∀ k, at0 (relit h l).light k = lightOf h k := by
  have dk := dels_at (nearby h l) h.light w
  have hn : ∀ k ∈ nearby h l, k < size h := fun k q => List.mem_range.mp (List.mem_filter.mp q).1
  refine rounds_light (lightOf_is h) hn (by rw [a.size]; exact hs) dk.1 (fun k q => ?_) fun k q => by rw [dk.2 k, if_pos q]
  rw [dk.2 k, if_neg q, lit k]
  by_cases c : k < size g
  · have far : ∀ c ∈ l, 15 < Vbwsar.apart g c k := fun c m => by
      apply Classical.byContradiction
      intro z
      apply q
      unfold nearby
      rw [List.mem_filter]
      refine ⟨List.mem_range.mpr (by rw [a.size]; assumption), List.any_eq_true.mpr ⟨c, m, ?_⟩⟩
      rw [decide_eq_true_eq, a.apart]
      unfold SUN
      omega
    refine eq_of_ge fun v hv => ⟨fun y => ?_, fun y => ?_⟩
    · exact far_ge a d hl (lightOf_is g) (lightOf_is h) 16 v k hv (by omega) c (fun c m => by have := far c m; omega) y
    · refine far_ge a.symm (a.down d) (fun c m => by rw [a.size]; exact hl c m) (lightOf_is h) (lightOf_is g) 16 v k hv (by omega) (by rw [a.size]; exact c) (fun c m => ?_) y
      have := far c m
      rw [a.apart]
      omega
  · rw [(lightOf_is g).out k (by omega), (lightOf_is h).out k (by rw [a.size]; omega)]
end GT
set_option linter.all false
namespace Gr
open Vbwsar (Ground)
/-! # The program's ways of working, over lists of whole numbers -/
theorem take_more {A : Type} : ∀ {l : List A} {i : Nat} {x : A}, l[i]? = some x → l.take (i + 1) = l.take i ++ [x]
  | [], i, x, h => by simp at h
  | a :: l, 0, x, h => by
    have e : a = x := Option.some.inj h
    subst e
    rfl
  | a :: l, i + 1, x, h => by
    have ih := take_more (l := l) (i := i) (x := x) h
    show a :: l.take (i + 1) = a :: l.take i ++ [x]
    rw [ih]
    rfl
theorem range_more {n : Nat} : List.range (n + 1) = List.range n ++ [n] := List.range_succ
theorem nodup_len : ∀ (n : Nat) (l : List Nat), l.Nodup → (∀ x ∈ l, x < n) → l.length ≤ n
  | 0, l, _, h => by
    cases l with
    | nil => simp
    | cons a l => exact absurd (h a (List.mem_cons_self ..)) (by omega)
  | n + 1, l, hn, h => by
    have h1 := nodup_len n (l.erase n) (hn.erase n) fun x hx => by
      have a := h x (List.mem_of_mem_erase hx)
      have b : x ≠ n := fun e => by
        subst e
        exact (List.Nodup.mem_erase_iff hn).mp hx |>.1 rfl
      omega
    have h2 := List.length_erase (a := n) (l := l)
    split at h2 <;> omega
def footM (g : Ground) (m : List Nat) (k : Nat) : Bool := (match Vbwsar.below g k with
  | none => true
  | some j => m.getD j 0 != 0 && m.getD j 0 != 5) || (Vbwsar.beside g k).any fun j => m.getD j 0 == 1
def hb (g : Ground) (m : List Nat) : Nat → Nat → Bool
  | 0, k => m.getD k 0 == 5 && footM g m k
  | n + 1, k => hb g m n k || (m.getD k 0 == 5 && (Vbwsar.around g k).any (hb g m n))
theorem hb_wood {g : Ground} {m : List Nat} : ∀ {n k : Nat}, hb g m n k = true → m.getD k 0 = 5
  | 0, k, h => by
    have h : (m.getD k 0 == 5 && footM g m k) = true := h
    rw [Bool.and_eq_true, beq_iff_eq] at h
    exact h.1
  | n + 1, k, h => by
    have h : (hb g m n k || (m.getD k 0 == 5 && (Vbwsar.around g k).any (hb g m n))) = true := h
    rw [Bool.or_eq_true, Bool.and_eq_true, beq_iff_eq] at h
    rcases h with h | h
    · exact hb_wood h
    · exact h.1
def roomM (m w : List Nat) (k : Nat) : Nat := if m.getD k 0 = 0 then 8 - w.getD k 0 else 0
def looseM (g : Ground) (m : List Nat) (k : Nat) : Bool := m.getD k 0 == 2 || (m.getD k 0 == 5 && !hb g m 4 k)
theorem filter_more {p : Nat → Bool} {i : Nat} : (List.range (i + 1)).filter p = if p i = true then (List.range i).filter p ++ [i] else (List.range i).filter p := by
  rw [range_more, List.filter_append]
  by_cases c : p i = true
  · rw [if_pos c]
    simp [c]
  · rw [if_neg c]
    simp [c]
def fallStep (g : Ground) (x : List Nat × List Nat) (k : Nat) : List Nat × List Nat := match Vbwsar.below g k with
  | none => x
  | some j => if x.1.getD j 0 = 0 then ((x.1.set j (x.1.getD k 0)).set k 0, (x.2.set k (x.2.getD j 0)).set j 0) else x
def fallM (g : Ground) (m w : List Nat) : List Nat × List Nat := ((List.range (Vbwsar.size g)).filter (looseM g m)).foldl (fallStep g) (m, w)
theorem fallStep_len {g : Ground} {x : List Nat × List Nat} {k : Nat} : (fallStep g x k).1.length = x.1.length ∧ (fallStep g x k).2.length = x.2.length := by
  unfold fallStep
  split
  · exact ⟨rfl, rfl⟩
  · split
    · exact ⟨by rw [List.length_set, List.length_set], by rw [List.length_set, List.length_set]⟩
    · exact ⟨rfl, rfl⟩
theorem falls_len {g : Ground} : ∀ (l : List Nat) (x : List Nat × List Nat), (l.foldl (fallStep g) x).1.length = x.1.length ∧ (l.foldl (fallStep g) x).2.length = x.2.length
  | [], x => ⟨rfl, rfl⟩
  | k :: l, x => by
    have a := fallStep_len (g := g) (x := x) (k := k)
    have b := falls_len (g := g) l (fallStep g x k)
    exact ⟨b.1.trans a.1, b.2.trans a.2⟩
theorem foldl_more {A B : Type} {f : A → B → A} {l : List B} {i : Nat} {x : B} {s : A} (h : l[i]? = some x) : (l.take (i + 1)).foldl f s = f ((l.take i).foldl f s) x := by
  rw [take_more h, List.foldl_append]
  rfl
theorem getD_set {l : List Nat} {i j v : Nat} : (l.set i v).getD j 0 = if i = j ∧ j < l.length then v else l.getD j 0 := by
  rw [List.getD_eq_getElem?_getD, List.getElem?_set, List.getD_eq_getElem?_getD]
  by_cases e : i = j
  · subst e
    rw [if_pos rfl]
    by_cases h : i < l.length
    · rw [if_pos h, if_pos ⟨rfl, h⟩]
      rfl
    · rw [if_neg h, if_neg (fun q => h q.2), List.getElem?_eq_none (by omega)]
  · rw [if_neg e, if_neg (fun q => e q.1)]
theorem getD_set_ne {l : List Nat} {i j v : Nat} (h : i ≠ j) : (l.set i v).getD j 0 = l.getD j 0 := by
  rw [getD_set, if_neg (fun q => h q.1)]
theorem getD_set_eq {l : List Nat} {i v : Nat} (h : i < l.length) : (l.set i v).getD i 0 = v := by
  rw [getD_set, if_pos ⟨rfl, h⟩]
theorem set_most {l : List Nat} {i v c : Nat} (h : ∀ k, l.getD k 0 ≤ c) (hv : v ≤ c) : ∀ k, (l.set i v).getD k 0 ≤ c := fun k => by
  rw [getD_set]
  split
  · exact hv
  · exact h k
theorem getD_lt {l : List Nat} {k : Nat} (h : l.length ≤ k) : l.getD k 0 = 0 := by
  rw [List.getD_eq_getElem?_getD, List.getElem?_eq_none h]
  rfl
def downM (g : Ground) (m w : List Nat) (k : Nat) : List Nat := match Vbwsar.below g k with
  | none => w
  | some j => (w.set k (w.getD k 0 - min (w.getD k 0) (roomM m w j))).set j (w.getD j 0 + min (w.getD k 0) (roomM m w j))
def lowStep (m w : List Nat) (o : Option Nat) (j : Nat) : Option Nat := if m.getD j 0 = 0 then (match o with
  | none => some j
  | some i => if w.getD j 0 < w.getD i 0 then some j else some i) else o
def lowM (g : Ground) (m w : List Nat) (k : Nat) : Option Nat := (Vbwsar.beside g k).foldl (lowStep m w) none
def asideM (g : Ground) (m w : List Nat) (k : Nat) : List Nat := match lowM g m w k with
  | none => w
  | some j => if w.getD j 0 + 2 ≤ w.getD k 0 then (w.set k (w.getD k 0 - 1)).set j (w.getD j 0 + 1) else w
def runStep (g : Ground) (m : List Nat) (w : List Nat) (k : Nat) : List Nat :=
  let w1 := if 0 < w.getD k 0 then downM g m w k else w
  if 1 < w1.getD k 0 then asideM g m w1 k else w1
def runM (g : Ground) (m w : List Nat) : List Nat := (List.range (Vbwsar.size g)).foldl (runStep g m) w
theorem downM_len {g : Ground} {m w : List Nat} {k : Nat} : (downM g m w k).length = w.length := by
  unfold downM
  split
  · rfl
  · rw [List.length_set, List.length_set]
theorem asideM_len {g : Ground} {m w : List Nat} {k : Nat} : (asideM g m w k).length = w.length := by
  unfold asideM
  split
  · rfl
  · split
    · rw [List.length_set, List.length_set]
    · rfl
theorem roomM_le {m w : List Nat} {k : Nat} (h : w.getD k 0 ≤ 8) : w.getD k 0 + roomM m w k ≤ 8 := by
  unfold roomM
  split <;> omega
theorem downM_most {g : Ground} {m w : List Nat} {k : Nat} (h : ∀ k, w.getD k 0 ≤ 8) : ∀ j, (downM g m w k).getD j 0 ≤ 8 := by
  unfold downM
  split
  · exact h
  · rename_i j _
    have a := h k
    have b := roomM_le (m := m) (h j)
    exact set_most (set_most h (by omega)) (by omega)
theorem asideM_most {g : Ground} {m w : List Nat} {k : Nat} (h : ∀ k, w.getD k 0 ≤ 8) : ∀ j, (asideM g m w k).getD j 0 ≤ 8 := by
  unfold asideM
  split
  · exact h
  · split
    · have a := h k
      exact set_most (set_most h (by omega)) (by omega)
    · exact h
theorem runStep_len {g : Ground} {m w : List Nat} {k : Nat} : (runStep g m w k).length = w.length := by
  have h1 : (if 0 < w.getD k 0 then downM g m w k else w).length = w.length := by
    split
    · exact downM_len
    · rfl
  unfold runStep
  generalize (if 0 < w.getD k 0 then downM g m w k else w) = w1 at h1
  dsimp only
  split
  · rw [asideM_len, h1]
  · exact h1
theorem runStep_most {g : Ground} {m w : List Nat} {k : Nat} (h : ∀ k, w.getD k 0 ≤ 8) : ∀ j, (runStep g m w k).getD j 0 ≤ 8 := by
  have h1 : ∀ j, (if 0 < w.getD k 0 then downM g m w k else w).getD j 0 ≤ 8 := by
    split
    · exact downM_most h
    · exact h
  unfold runStep
  generalize (if 0 < w.getD k 0 then downM g m w k else w) = w1 at h1
  dsimp only
  split
  · exact asideM_most h1
  · exact h1
theorem runs_most {g : Ground} {m : List Nat} : ∀ (l w : List Nat), (∀ k, w.getD k 0 ≤ 8) → (∀ j, (l.foldl (runStep g m) w).getD j 0 ≤ 8) ∧ (l.foldl (runStep g m) w).length = w.length
  | [], w, h => ⟨h, rfl⟩
  | k :: l, w, h => by
    have a := runs_most (g := g) (m := m) l (runStep g m w k) (runStep_most h)
    exact ⟨a.1, a.2.trans runStep_len⟩
theorem lowStep_in {m w : List Nat} : ∀ (l : List Nat) (o : Option Nat) (j : Nat), l.foldl (lowStep m w) o = some j → j ∈ l ∨ o = some j
  | [], o, j, h => .inr h
  | a :: l, o, j, h => by
    rcases lowStep_in l _ j h with q | q
    · exact .inl (List.mem_cons_of_mem _ q)
    · unfold lowStep at q
      split at q
      · split at q
        · injection q with q
          exact .inl (by rw [q]; exact List.mem_cons_self ..)
        · split at q
          · injection q with q
            exact .inl (by rw [q]; exact List.mem_cons_self ..)
          · exact .inr q
      · exact .inr q
theorem lowM_in {g : Ground} {m w : List Nat} {k j : Nat} (h : lowM g m w k = some j) : j ∈ Vbwsar.beside g k := by
  rcases lowStep_in _ _ _ h with q | q
  · exact q
  · cases q
theorem beside_ne {g : Ground} {k j : Nat} (hk : k < Vbwsar.size g) (h : j ∈ Vbwsar.beside g k) : k ≠ j := by
  obtain ⟨x, y, z, hx, hy, hz, rfl⟩ := GT.coords hk
  intro e
  rcases (GT.mem_beside hx hy).mp h with ⟨c, q⟩ | ⟨c, q⟩ | ⟨c, q⟩ | ⟨c, q⟩
  · rw [q] at e
    have := (GT.key_inj hx hy (by omega) hy e).1
    omega
  · rw [q] at e
    have := (GT.key_inj hx hy c hy e).1
    omega
  · rw [q] at e
    have := (GT.key_inj hx hy hx (by omega) e).2.1
    omega
  · rw [q] at e
    have := (GT.key_inj hx hy hx c e).2.1
    omega
def tickM (g : Ground) (m w : List Nat) : List Nat × List Nat := ((fallM g m w).1, runM g (fallM g m w).1 (fallM g m w).2)
/-- so many ticks at most, till all is quiet: what is there then, how many were made, whether it is quiet -/
def goM (g : Ground) : Nat → Nat → List Nat → List Nat → List Nat × List Nat × Nat × Bool
  | 0, n, m, w => (m, w, n, decide ((tickM g m w).1 = m) && decide ((tickM g m w).2 = w))
  | f + 1, n, m, w => if (decide ((tickM g m w).1 = m) && decide ((tickM g m w).2 = w)) = true then (m, w, n, true) else goM g f (n + 1) (tickM g m w).1 (tickM g m w).2
end Gr
set_option Elab.async false
set_option linter.all false
set_option maxRecDepth 100000
set_option maxHeartbeats 4000000
namespace Gr
open PySem PySem.Spec PyProof.Rows L2
/-! # What the layer lacked, and short words -/
/-- a list of whole numbers, none below 0 -/
abbrev vn (l : List Nat) : List V := l.map fun (n : Nat) => V.int (n : Int)
def IL (H : Hp) (a : Addr) (l : List Nat) : Prop := H a = some (.lst (vn l))
theorem vn_at {l : List Nat} {k : Nat} (h : k < l.length) : (vn l)[k]? = some (V.int ((l.getD k 0 : Nat) : Int)) := by
  rw [List.getElem?_map, List.getElem?_eq_getElem h, List.getD_eq_getElem?_getD, List.getElem?_eq_getElem h]
  rfl
theorem vn_atI {l : List Nat} {k : Nat} (h : k < l.length) : atI (vn l) (k : Int) = some (V.int ((l.getD k 0 : Nat) : Int)) := at_of rfl (vn_at h)
theorem vn_set {l : List Nat} {k v : Nat} : (vn l).set k (V.int (v : Int)) = vn (l.set k v) := by
  show _ = (l.set k v).map _
  rw [List.map_set]
/-- a module's name that holds a whole number -/
def Gi (mg : Str → Option Value) (x : Str) (i : Int) : Prop := ∃ t, mg x = some (.int i t)
theorem pe_gi {X : Cx} {x : Str} {i : Int} {pos : Pos} (h : Gi X.mg x i) (hg : Gl X x := by rfl) (hd : (x == ("__debug__" : Str)) = false := by decide) : PE X (.Name x pos) (tC (.int i)) := by
  obtain ⟨t, e⟩ := h
  exact pe_glob (hd := hd) hg e ⟨t, rfl⟩
/-- xs[k], k not below 0, read for xs[k] op= e -/
def rGetN : V → V → Hp → VK → Prop := fun x y H Q => ∃ p xs k v, x = .ref p ∧ y = .int ((k : Nat) : Int) ∧ H p = some (.lst xs) ∧ xs[k]? = some v ∧ Q v H
theorem get_listN {X : Cx} : PGet X rGetN := by
  intro pins s σ H x y ov iv Q I rx ry h
  obtain ⟨p, xs, k, v, rfl, rfl, hp, hv, q⟩ := h
  cases rx
  obtain ⟨t, rfl⟩ := ry
  obtain ⟨its, r, pl, hz⟩ := I.list (SqL.of hp)
  obtain ⟨w, ew, rw'⟩ := r.get hv
  have hl : k < xs.length := (List.getElem?_eq_some_iff.mp hv).1
  have hn := line63
  refine wpAny_getItem_list pl.isList (by omega) ?_ (by simpa using ew) ⟨v, H, I, rw', q⟩
  omega
end Gr
namespace Gr
open PySem PySem.Spec PyProof.Rows L2
/-- a store at an address that was not tracked leaves all that was -/
theorem same_upd {H H' : Hp} {p : Addr} {o : HO} (s : Same H H') (h : H p = none) : Same H (upd H' p o) := fun b u e => by
  by_cases q : b = p
  · subst q
    rw [h] at e
    cases e
  · rw [upd_ne q]
    exact s b u e
theorem same_new {H : Hp} {p : Addr} {o : HO} (h : H p = none) : Same H (upd H p o) := same_upd (Same.refl H) h
theorem same_of_new {H H1 : Hp} {p : Addr} {o : HO} (h : H1 p = none) (s : Same H H1) : Same H (upd H1 p o) := same_upd s (s.free h)
/-- a comprehension whose item and test leave what was tracked as it was -/
theorem lc_pure {K : PySem.W.Frag} {a : Addr} {xs : List V} {i : Nat} {tt : TT} {te : TE} {vs : List Nat} {σ : L2.St} {H1 : Hp} {D : Addr} {Qd : Hp → Prop} (f : V → V) (p : V → Bool)
    (hD : H1 D = none) (hz : xs.length < sizeLine) (hq : SqL K H1 a xs) (hw : ∀ x, wipe ((wipe σ vs).set i (some x)) vs = wipe σ vs)
    (ht : ∀ x ∈ xs, ∀ H2, Same H1 H2 → ∀ Q : Bool → Hp → Prop, (∀ H3, Same H2 H3 → Q (p x) H3) → tt ((wipe σ vs).set i (some x)) H2 Q)
    (he : ∀ x ∈ xs, p x = true → ∀ H2, Same H1 H2 → ∀ Q : V → Hp → Prop, (∀ H3, Same H2 H3 → Q (f x) H3) → te ((wipe σ vs).set i (some x)) H2 Q)
    (hd : ∀ H2, Same H1 H2 → H2 D = some (.lst ((xs.filter p).map f)) → Qd H2) :
    ∃ W : Nat → Nat → Hp → Prop, (∃ m, W 0 m (upd H1 D (.lst []))) ∧ ∀ j m H, W j m H →
      ((Itl K a).stop j H ∧ Qd H) ∨ ((Itl K a).go j H ∧ ∃ Nx : Hp → Prop, (∀ H', Nx H' → ∃ m', m' < m ∧ W (j + 1) m' H') ∧ ∀ x H', (Itl K a).yld j H x H' → gName i x (wipe σ vs) H' fun σ2 H2 => wipe σ2 vs = wipe σ vs ∧ tt σ2 H2 fun b H3 =>
        if b = true then te σ2 H3 fun y H4 => ∃ acc, H4 D = some (.lst acc) ∧ acc.length < sizeLine ∧ Nx (upd H4 D (.lst (acc ++ [y]))) else Nx H3) := by
  refine lc_list (K := K) (a := a) (xs := xs) (fun j H2 => Same H1 H2 ∧ H2 D = some (.lst (((xs.take j).filter p).map f))) ⟨same_new hD, upd_same⟩ (fun j H2 _ h => h.1.seq hq) ?_ (fun H2 h => ?_)
  · rintro j x H2 hx ⟨s2, e2⟩
    have mx : x ∈ xs := List.mem_of_getElem? hx
    refine ⟨hw x, ht x mx H2 s2 _ fun H3 s3 => ?_⟩
    by_cases c : p x = true
    · rw [if_pos c]
      refine he x mx c H3 (s2.trans s3) _ fun H4 s4 => ⟨_, s4 _ _ (s3 _ _ e2), ?_, same_upd (s2.trans (s3.trans s4)) hD, ?_⟩
      · rw [List.length_map]
        refine Nat.lt_of_le_of_lt (List.length_filter_le _ _) (Nat.lt_of_le_of_lt ?_ hz)
        rw [List.length_take]
        exact Nat.min_le_right _ _
      · rw [upd_same, take_more hx, List.filter_append, List.map_append]
        have e : List.filter p [x] = [x] := by simp [c]
        rw [e]
        rfl
    · rw [if_neg c]
      refine ⟨s2.trans s3, ?_⟩
      rw [s3 _ _ e2, take_more hx, List.filter_append, List.map_append]
      have e : List.filter p [x] = [] := by simp [c]
      rw [e]
      simp
  · have := h.2
    rw [List.take_length] at this
    exact hd H2 h.1 this
/-- the same over range(n) -/
theorem lc_pureR {n : Nat} {i : Nat} {tt : TT} {te : TE} {vs : List Nat} {σ : L2.St} {H1 : Hp} {D : Addr} {Qd : Hp → Prop} (f : Nat → V) (p : Nat → Bool)
    (hD : H1 D = none) (hz : n < sizeLine) (hw : ∀ x, wipe ((wipe σ vs).set i (some x)) vs = wipe σ vs)
    (ht : ∀ k, k < n → ∀ H2, Same H1 H2 → ∀ Q : Bool → Hp → Prop, (∀ H3, Same H2 H3 → Q (p k) H3) → tt ((wipe σ vs).set i (some (.int (k : Int)))) H2 Q)
    (he : ∀ k, k < n → p k = true → ∀ H2, Same H1 H2 → ∀ Q : V → Hp → Prop, (∀ H3, Same H2 H3 → Q (f k) H3) → te ((wipe σ vs).set i (some (.int (k : Int)))) H2 Q)
    (hd : ∀ H2, Same H1 H2 → H2 D = some (.lst (((List.range n).filter p).map f)) → Qd H2) :
    ∃ W : Nat → Nat → Hp → Prop, (∃ m, W 0 m (upd H1 D (.lst []))) ∧ ∀ j m H, W j m H →
      ((Itr 0 n).stop j H ∧ Qd H) ∨ ((Itr 0 n).go j H ∧ ∃ Nx : Hp → Prop, (∀ H', Nx H' → ∃ m', m' < m ∧ W (j + 1) m' H') ∧ ∀ x H', (Itr 0 n).yld j H x H' → gName i x (wipe σ vs) H' fun σ2 H2 => wipe σ2 vs = wipe σ vs ∧ tt σ2 H2 fun b H3 =>
        if b = true then te σ2 H3 fun y H4 => ∃ acc, H4 D = some (.lst acc) ∧ acc.length < sizeLine ∧ Nx (upd H4 D (.lst (acc ++ [y]))) else Nx H3) := by
  refine lc_range (lo := 0) (n := n) (fun j H2 => Same H1 H2 ∧ H2 D = some (.lst (((List.range j).filter p).map f))) ⟨same_new hD, upd_same⟩ ?_ (fun H2 h => hd H2 h.1 h.2)
  rintro k H2 hk ⟨s2, e2⟩
  rw [Int.zero_add]
  refine ⟨hw _, ht k hk H2 s2 _ fun H3 s3 => ?_⟩
  by_cases c : p k = true
  · rw [if_pos c]
    refine he k hk c H3 (s2.trans s3) _ fun H4 s4 => ⟨_, s4 _ _ (s3 _ _ e2), ?_, same_upd (s2.trans (s3.trans s4)) hD, ?_⟩
    · rw [List.length_map]
      refine Nat.lt_of_le_of_lt (List.length_filter_le _ _) (Nat.lt_of_le_of_lt ?_ hz)
      rw [List.length_range]
      omega
    · rw [upd_same, range_more, List.filter_append, List.map_append]
      have e : List.filter p [k] = [k] := by simp [c]
      rw [e]
      rfl
  · rw [if_neg c]
    refine ⟨s2.trans s3, ?_⟩
    rw [s3 _ _ e2, range_more, List.filter_append, List.map_append]
    have e : List.filter p [k] = [] := by simp [c]
    rw [e]
    simp

/-! ## A dict as a set of whole numbers -/
abbrev dkv (l : List Nat) : List (Key × V) := l.map fun (n : Nat) => (Sum.inl (n : Int), V.bl true)
theorem dkv_val : ∀ (l : List Nat) (k : Nat), (valV (dkv l) (Sum.inl (k : Int))).isSome = decide (k ∈ l)
  | [], k => by simp [valV]
  | a :: l, k => by
    show (valV ((Sum.inl (a : Int), V.bl true) :: dkv l) _).isSome = _
    by_cases e : a = k
    · rw [valV_pos (by rw [e])]
      simp [e]
    · have : ¬ ((Sum.inl (a : Int) : Key) = Sum.inl (k : Int)) := fun q => e (by
        injection q with q
        omega)
      rw [valV_neg this, dkv_val l k]
      have e' : ¬ k = a := fun q => e q.symm
      simp [e']
theorem dkv_new {l : List Nat} {k : Nat} (h : k ∉ l) : putK (dkv l) (Sum.inl (k : Int)) (V.bl true) = dkv (l ++ [k]) := by
  have e : valV (dkv l) (Sum.inl (k : Int)) = none := by
    have := dkv_val l k
    rw [decide_eq_false h] at this
    simpa using this
  rw [putK_new _ e]
  show _ = (l ++ [k]).map _
  rw [List.map_append]
  rfl
end Gr
set_option Elab.async false
set_option linter.all false
set_option maxRecDepth 100000
set_option maxHeartbeats 4000000
namespace Gr
open PySem PySem.Spec PyProof.Rows L2
open Vbwsar (Ground)
/-- the i-th statement of the program -/
def top (i : Nat) : Stmt := PySem.Challenge.pw_fallingground_s01_answers.main.body.getD i (.Pass ⟨0, 0, 0, 0⟩)
/-- what the top has written -/
structure Txt (K : PySem.W.Frag) (mg : Str → Option Value) (CL CG : Addr) : Prop where
  gAIR : Gi mg "AIR" 0
  gSTONE : Gi mg "STONE" 1
  gSAND : Gi mg "SAND" 2
  gLAMP : Gi mg "LAMP" 3
  gGLASS : Gi mg "GLASS" 4
  gWOOD : Gi mg "WOOD" 5
  gFULL : Gi mg "FULL" 8
  gSIDE : Gi mg "LONGEST_SIDE" 12
  gCELLS : Gi mg "MOST_CELLS" 600
  gROW : Gi mg "ROW_END" 10
  gNOW : Gi mg "NO_WATER" 48
  gMOST : Gi mg "MOST_WATER" 8
  gSTEPS : Gi mg "HOLDING_STEPS" 4
  gSKY : Gi mg "SKY_LIGHT" 15
  gGLOW : Gi mg "LAMP_LIGHT" 14
  gTEXT : Gi mg "TEXT" 0
  gTICKS : Gi mg "MOST_TICKS" 50
  gSETT : Gi mg "MOST_SETTLING" 200
  nany : mg "any" = none
  nlen : mg "len" = none
  nrange : mg "range" = none
  nmin : mg "min" = none
  nmax : mg "max" = none
  nsum : mg "sum" = none
  nlist : mg "list" = none
  ntuple : mg "tuple" = none
  nenum : mg "enumerate" = none
  clL : Cls K CL
  clG : Cls K CG
  aSides : NoAttr K CL "sides"
  aSize : NoAttr K CL "layer_size"
  aBelow : NoAttr K CL "below"
  aBeside : NoAttr K CL "beside"
  aAbout : NoAttr K CL "about"
  aLay : NoAttr K CG "layout"
  aMat : NoAttr K CG "materials"
  aWat : NoAttr K CG "water"
  aTic : NoAttr K CG "ticks"
  gL : mg "Layout" = some (.ref CL)
  gG : mg "Ground" = some (.ref CG)
/-- a def of the text by its name: where it stands, and how arguments meet its parameters -/
structure DefN (K : PySem.W.Frag) (mg : Str → Option Value) (x : Str) (st : Stmt) (ps : List Str) (f : Addr) (fd : FuncData) : Prop where
  F : Fun K x x st f fd
  g : mg x = some (.ref f)
  b : Binds K fd ps []
/-- a cell's number, or None -/
def optV : Option Nat → V
  | none => .non
  | some j => .int (j : Int)
structure LayD where
  dx : Addr
  fs : List (Str × V)
  be : Addr
  bs : Addr
  ab : Addr
  sa : Addr
  bl : List Addr
  al : List Addr
/-- at a stands a Layout of the ground's form -/
structure LayOk (CL : Addr) (H : Hp) (a : Addr) (g : Ground) (d : LayD) : Prop where
  ins : H a = some (.ins CL d.dx d.fs)
  fSides : d.fs.lookup ("sides" : Str) = some (.ref d.sa)
  fSize : d.fs.lookup ("layer_size" : Str) = some (.int ((g.sx * g.sy : Nat) : Int))
  fBelow : d.fs.lookup ("below" : Str) = some (.ref d.be)
  fBeside : d.fs.lookup ("beside" : Str) = some (.ref d.bs)
  fAbout : d.fs.lookup ("about" : Str) = some (.ref d.ab)
  nCell : d.fs.lookup ("cell_at" : Str) = none
  nPlace : d.fs.lookup ("place_of" : Str) = none
  sides : H d.sa = some (.tup [.int (g.sx : Int), .int (g.sy : Int), .int (g.sz : Int)])
  below : H d.be = some (.lst ((List.range (Vbwsar.size g)).map fun k => optV (Vbwsar.below g k)))
  beside : H d.bs = some (.lst (d.bl.map V.ref))
  about : H d.ab = some (.lst (d.al.map V.ref))
  blen : d.bl.length = Vbwsar.size g
  alen : d.al.length = Vbwsar.size g
  bat : ∀ k, k < Vbwsar.size g → IL H (d.bl.getD k 0) (Vbwsar.beside g k)
  aat : ∀ k, k < Vbwsar.size g → IL H (d.al.getD k 0) (Vbwsar.around g k)
def Lay (CL : Addr) (H : Hp) (a : Addr) (g : Ground) : Prop := ∃ d, LayOk CL H a g d
theorem LayOk.same {CL : Addr} {H H' : Hp} {a : Addr} {g : Ground} {d : LayD} (h : LayOk CL H a g d) (s : Same H H') : LayOk CL H' a g d :=
  ⟨s _ _ h.ins, h.fSides, h.fSize, h.fBelow, h.fBeside, h.fAbout, h.nCell, h.nPlace, s _ _ h.sides, s _ _ h.below, s _ _ h.beside, s _ _ h.about, h.blen, h.alen, fun k q => s _ _ (h.bat k q), fun k q => s _ _ (h.aat k q)⟩
theorem Lay.same {CL : Addr} {H H' : Hp} {a : Addr} {g : Ground} (h : Lay CL H a g) (s : Same H H') : Lay CL H' a g := h.elim fun d q => ⟨d, q.same s⟩
theorem LayOk.belowAt {CL : Addr} {H : Hp} {a : Addr} {g : Ground} {d : LayD} (h : LayOk CL H a g d) {k : Nat} (hk : k < Vbwsar.size g) :
    atI ((List.range (Vbwsar.size g)).map fun k => optV (Vbwsar.below g k)) (k : Int) = some (optV (Vbwsar.below g k)) := at_of rfl (by
  rw [List.getElem?_map, List.getElem?_range hk]
  rfl)
theorem refs_at {l : List Addr} {k : Nat} (h : k < l.length) : (l.map V.ref)[k]? = some (V.ref (l.getD k 0)) := by
  rw [List.getElem?_map, List.getElem?_eq_getElem h, List.getD_eq_getElem?_getD, List.getElem?_eq_getElem h]
  rfl
theorem LayOk.besideAt {CL : Addr} {H : Hp} {a : Addr} {g : Ground} {d : LayD} (h : LayOk CL H a g d) {k : Nat} (hk : k < Vbwsar.size g) :
    atI (d.bl.map V.ref) (k : Int) = some (V.ref (d.bl.getD k 0)) := at_of rfl (refs_at (by rw [h.blen]; exact hk))
theorem LayOk.aboutAt {CL : Addr} {H : Hp} {a : Addr} {g : Ground} {d : LayD} (h : LayOk CL H a g d) {k : Nat} (hk : k < Vbwsar.size g) :
    atI (d.al.map V.ref) (k : Int) = some (V.ref (d.al.getD k 0)) := at_of rfl (refs_at (by rw [h.alen]; exact hk))

theorem beside_len {g : Ground} {k : Nat} : (Vbwsar.beside g k).length ≤ 4 := by
  unfold Vbwsar.beside
  simp only [List.length_append]
  have : ∀ (c : Prop) [Decidable c] (a : Nat), (if c then [a] else []).length ≤ 1 := fun c _ a => by split <;> simp
  have h1 := this (0 < k % g.sx) (k - 1)
  have h2 := this (k % g.sx + 1 < g.sx) (k + 1)
  have h3 := this (0 < k / g.sx % g.sy) (k - g.sx)
  have h4 := this (k / g.sx % g.sy + 1 < g.sy) (k + g.sx)
  omega
/-- the number that a value is -/
def natV : V → Nat
  | .int z => z.toNat
  | _ => 0
theorem int_eqN (n c : Nat) : decide (V.int (n : Int) = V.int (c : Int)) = (n == c) := by
  by_cases h : n = c
  · subst h
    simp
  · have : ¬ V.int (n : Int) = V.int (c : Int) := fun e => h (by
      injection e with e
      omega)
    rw [decide_eq_false this]
    exact (beq_eq_false_iff_ne.mpr h).symm
theorem int_eq1 (n : Nat) : decide (V.int (n : Int) = V.int 1) = (n == 1) := int_eqN n 1
/-! ## has_foot -/
theorem notin2 (n : Nat) : (if true = true then !inV (V.int (n : Int)) [V.int 0, V.int 5] else inV (V.int (n : Int)) [V.int 0, V.int 5]) = (n != 0 && n != 5) := by
  rw [if_pos rfl]
  show (!((0 : Int) == (n : Int) || ((5 : Int) == (n : Int) || false))) = _
  by_cases h0 : n = 0
  · subst h0
    rfl
  · by_cases h5 : n = 5
    · subst h5
      rfl
    · have a : ((0 : Int) == (n : Int)) = false := by
        rw [beq_eq_false_iff_ne]
        omega
      have b : ((5 : Int) == (n : Int)) = false := by
        rw [beq_eq_false_iff_ne]
        omega
      have c : (n != 0) = true := by simp [h0]
      have d : (n != 5) = true := by simp [h5]
      rw [a, b, c, d]
      rfl
abbrev sFoot : Stmt := top 39
abbrev NFoot : List Str := ["layout", "materials", "cell", "below", "near"]
theorem scFoot : FnScope NFoot ["layout", "materials", "cell"] (defScope sFoot) := ⟨rfl, rfl, rfl, by decide +kernel, rfl, by decide +kernel, by decide +kernel⟩
def spFoot (CL : Addr) : Sp := fun vs H Q _ => ∃ (l a : Addr) (g : Ground) (m : List Nat) (k : Nat), vs = [.ref l, .ref a, .int k] ∧ Lay CL H l g ∧ IL H a m ∧ m.length = Vbwsar.size g ∧ k < Vbwsar.size g ∧
  ∀ H', Same H H' → Q (.bl (footM g m k)) H'
section
variable {P : Program} {w : World} {K : PySem.W.Frag} {mg : Str → Option Value} {base : Heap} {CL CG : Addr}
theorem ok_foot {f : Addr} {fd : FuncData} (F : Fun K "has_foot" "has_foot" sFoot f fd) (T : Txt K mg CL CG) : FnOk P w K mg base CX0 1 f fd ["layout", "materials", "cell"] (spFoot CL) := by
  refine F.ok scFoot (fun vs H Q E h => ?_) (fun cdv A outer s H vs Q E hr h => ?_)
  · obtain ⟨_, _, _, _, _, rfl, _⟩ := h
    rfl
  · refine ⟨_, pss_cons (ps_set (i := 3) scFoot.nd rfl (Or.inl rfl) (pe_ix ix_list (pe_fld (pv 0) rfl) (pv 2) (fun _ _ => rfl)))
      (pss_cons (ps_if (PW.pt (pw_or (pt_cmpR op_isN (pv 3) pe_non (nomark _)) (pw_or1 (pt_cmpR op_notIn_seq (pe_ix ix_list (pv 1) (pv 3) (fun _ _ => rfl)) (pe_tup (pa_cons (pe_gi T.gAIR) (pa_cons (pe_gi T.gWOOD) pa_nil))) (by rfl)))))
        (pss_one (ps_ret pe_bl)) pss_nil)
      (pss_one (ps_ret (pe_callB (cr_any rfl) (by rfl) T.nany (by decide +kernel) (pa_cons
        (pe_lc (own := [("near", 4)]) (g := gName 4) (tt := tYes) rfl scFoot.nd (pi_list (pe_ix ix_list (pe_fld (pv 0) rfl) (pv 2) (fun _ _ => rfl))) (blkOk_by (N := NFoot) (sc := defScope sFoot) (by decide +kernel))
          (fun _ _ _ _ _ => pg_name (i := 4) scFoot.nd rfl (Or.inl rfl)) (fun _ _ _ _ _ => pts_nil)
          (fun _ _ _ _ _ => pe_cmpR op_eq (pe_ix (r := rIxL K) ix_list (pv 1) (pv 4) (fun _ _ => rfl)) (pe_gi T.gSTONE) (nomark _))) pa_nil))))), ?_⟩
    obtain ⟨l, a, g, m, k, rfl, ⟨d, L⟩, hm, hlen, hk, q⟩ := h
    refine ⟨_, rfl, l, CL, d.dx, _, _, rfl, L.ins, T.clL, T.aBelow, L.fBelow, _, rfl, d.be, _, _, _, rfl, rfl, SqL.of L.below, L.belowAt hk, ?_⟩
    have hd := q
    unfold footM at q
    cases e : Vbwsar.below g k with
    | none =>
      rw [e] at q
      refine ⟨_, rfl, rfl, _, rfl, iteT (iteT ?_)⟩
      exact q H (Same.refl H)
    | some j =>
      rw [e] at q
      have hj : j < m.length := by
        rw [hlen]
        exact GT.around_lt hk (GT.below_around e)
      refine ⟨_, rfl, rfl, _, rfl, iteF ⟨_, rfl, _, rfl, a, _, _, _, rfl, rfl, SqL.of hm, vn_atI hj, (by show 2 ≤ sizeLine; decide), fun t ht => ?_⟩⟩
      refine ⟨t, _, rfl, Or.inr (SqT.of upd_same), rfl, rfl, _, rfl, ?_⟩
      have s1 : Same H (upd H t (.tup [.int 0, .int 5])) := same_new ht
      rw [show (if true = true then !inV (V.int ((m.getD j 0 : Nat) : Int)) [V.int 0, V.int 5] else inV (V.int ((m.getD j 0 : Nat) : Int)) [V.int 0, V.int 5]) = (m.getD j 0 != 0 && m.getD j 0 != 5) from notin2 _]
      cases c : (m.getD j 0 != 0 && m.getD j 0 != 5) with
      | true =>
        refine iteT ?_
        have q1 := q _ s1
        dsimp only at q1
        rw [c] at q1
        exact q1
      | false =>
        refine iteF ?_
        have L1 := L.same s1
        refine ⟨_, rfl, l, CL, d.dx, _, _, rfl, L1.ins, T.clL, T.aBeside, L1.fBeside, _, rfl, d.bs, _, _, _, rfl, rfl, SqL.of L1.beside, L1.besideAt hk, _, rfl, ⟨_, SqL.of (L1.bat k hk)⟩, fun D hD => ?_⟩
        refine lc_pure (fun x => V.bl (m.getD (natV x) 0 == 1)) (fun _ => true) hD (small1000 (by rw [List.length_map]; exact Nat.le_trans beside_len (by decide))) (SqL.of (L1.bat k hk)) (fun x => rfl) (fun x hx H2 s2 Q h => h H2 (Same.refl H2)) (fun x hx _ H2 s2 Q h => ?_) (fun H2 s2 e2 => ?_)
        · obtain ⟨j', hj', rfl⟩ := List.mem_map.mp hx
          have lt : j' < m.length := by
            rw [hlen]
            exact GT.around_lt hk (GT.beside_around hj')
          refine ⟨_, rfl, _, rfl, a, _, _, _, rfl, rfl, SqL.of (s2 _ _ (s1 _ _ hm)), vn_atI lt, rfl, ?_⟩
          rw [int_eq1]
          exact h H2 (Same.refl H2)
        · refine ⟨_, (Vbwsar.beside g k).map (fun j => m.getD j 0 == 1), rfl, SqL.of (by
            rw [e2, List.filter_eq_self.mpr (fun _ _ => rfl), List.map_map, List.map_map]
            rfl), ?_⟩
          have q1 := q H2 (Same.trans s1 s2)
          dsimp only at q1
          rw [c, Bool.false_or] at q1
          rw [List.any_map]
          exact q1
end
end Gr
set_option Elab.async false
set_option linter.all false
set_option maxRecDepth 100000
set_option maxHeartbeats 4000000
namespace Gr
open PySem PySem.Spec PyProof.Rows L2
open Vbwsar (Ground)
/-! ## fits -/
abbrev vi (l : List Int) : List V := l.map V.int
theorem at_vi {l : List Int} {i : Nat} {x : V} (h : (vi l)[i]? = some x) : ∃ k, l[i]? = some k ∧ x = V.int k := by
  rw [List.getElem?_map] at h
  cases e : l[i]? with
  | none =>
    rw [e] at h
    cases h
  | some k =>
    rw [e] at h
    exact ⟨k, rfl, (Option.some.inj h).symm⟩
def inSide (s : Int) : Bool := decide (1 ≤ s) && decide (s ≤ 12)
def prodI (l : List Int) : Int := l.foldl (fun c s => c * s) 1
def fitsI (l : List Int) : Bool := l.all inSide && decide (prodI l ≤ 600)
theorem inSide_iff {s : Int} : inSide s = true ↔ 1 ≤ s ∧ s ≤ 12 := by
  unfold inSide
  rw [Bool.and_eq_true, decide_eq_true_iff, decide_eq_true_iff]
theorem prod_most : ∀ (l : List Int) (c : Int) (n : Nat), l.length ≤ n → (∀ s ∈ l, inSide s = true) → 1 ≤ c → 1 ≤ l.foldl (fun c s => c * s) c ∧ l.foldl (fun c s => c * s) c ≤ c * 12 ^ n
  | [], c, n, _, _, hc => ⟨hc, by
    have : (1 : Int) ≤ 12 ^ n := Int.pow_pos (by decide)
    show c ≤ c * 12 ^ n
    calc c = c * 1 := (Int.mul_one c).symm
      _ ≤ c * 12 ^ n := Int.mul_le_mul_of_nonneg_left this (by omega)⟩
  | s :: l, c, 0, h, _, _ => by simp at h
  | s :: l, c, n + 1, h, hs, hc => by
    have a := inSide_iff.mp (hs s (List.mem_cons_self ..))
    have c1 : 1 ≤ c * s := by
      have := Int.mul_le_mul hc a.1 (by decide) (by omega)
      simpa using this
    have ih := prod_most l (c * s) n (by simpa using h) (fun z hz => hs z (List.mem_cons_of_mem _ hz)) c1
    refine ⟨ih.1, Int.le_trans ih.2 ?_⟩
    have p : (0 : Int) ≤ 12 ^ n := Int.le_of_lt (Int.pow_pos (by decide))
    have q : c * s ≤ c * 12 := Int.mul_le_mul_of_nonneg_left a.2 (by omega)
    calc c * s * 12 ^ n ≤ c * 12 * 12 ^ n := Int.mul_le_mul_of_nonneg_right q p
      _ = c * 12 ^ (n + 1) := by rw [Int.pow_succ, Int.mul_comm (12 ^ n) 12, Int.mul_assoc]
theorem prod_lt {l : List Int} (h : l.length ≤ 3) (hs : ∀ s ∈ l, inSide s = true) : 1 ≤ prodI l ∧ prodI l ≤ 1728 := by
  have := prod_most l 1 3 h hs (by decide)
  exact ⟨this.1, by have := this.2; unfold prodI; omega⟩
theorem prod_more {l : List Int} {i : Nat} {s : Int} (h : l[i]? = some s) : prodI (l.take (i + 1)) = prodI (l.take i) * s := by
  unfold prodI
  rw [foldl_more h]
abbrev sFits : Stmt := top 3
abbrev NFits : List Str := ["sides", "cells", "side"]
theorem scFits : FnScope NFits ["sides"] (defScope sFits) := ⟨rfl, rfl, rfl, by decide +kernel, rfl, by decide +kernel, by decide +kernel⟩
def spFitsL (K : PySem.W.Frag) : Sp := fun vs H Q _ => ∃ (a : Addr) (l : List Int), vs = [.ref a] ∧ SqL K H a (vi l) ∧ l.length = 3 ∧ Q (.bl (fitsI l)) H
def spFitsT (K : PySem.W.Frag) : Sp := fun vs H Q _ => ∃ (a : Addr) (l : List Int), vs = [.ref a] ∧ SqT K H a (vi l) ∧ l.length = 3 ∧ Q (.bl (fitsI l)) H
theorem fits_no {l : List Int} {i : Nat} {s : Int} (h : l[i]? = some s) (n : ¬ (1 ≤ s ∧ s ≤ 12)) : fitsI l = false := by
  unfold fitsI
  rw [Bool.and_eq_false_iff]
  left
  cases c : l.all inSide with
  | false => rfl
  | true =>
    have := List.all_eq_true.mp c s (List.mem_of_getElem? h)
    exact absurd (inSide_iff.mp this) n
section
variable {P : Program} {w : World} {K : PySem.W.Frag} {mg : Str → Option Value} {base : Heap} {CL CG : Addr}
theorem ok_fitsL {f : Addr} {fd : FuncData} (F : Fun K "fits" "fits" sFits f fd) (T : Txt K mg CL CG) : FnOk P w K mg base CX0 1 f fd ["sides"] (spFitsL K) := by
  refine F.ok scFits (fun vs H Q E h => ?_) (fun cdv A outer s H vs Q E hr h => ?_)
  · obtain ⟨_, _, rfl, _⟩ := h
    rfl
  · refine ⟨_, pss_cons (ps_set (i := 1) scFits.nd rfl (Or.inl rfl) pe_int)
      (pss_cons (ps_for PassesOwn.never rfl (pi_list (pv 0)) (pg_name (i := 2) scFits.nd rfl (Or.inl rfl))
        (pss_cons (ps_if (PW.pt (pw_or (pt_cmpR op_lt (pv 2) pe_int (nomark _)) (pw_or1 (pt_cmpR op_gt (pv 2) (pe_gi T.gSIDE) (nomark _))))) (pss_one (ps_ret pe_bl)) pss_nil)
        (pss_one (ps_aug (i := 1) scFits.nd rfl (Or.inl rfl) (pv 2) iop_mul))))
      (pss_one (ps_ret (pe_cmpR op_le (pv 1) (pe_gi T.gCELLS) (nomark _))))), ?_⟩
    obtain ⟨a, l, rfl, hs, hl, q⟩ := h
    refine ⟨_, rfl, a, rfl, ⟨_, hs⟩, for_list (K := K) (a := a) (xs := vi l) (fun i σ H' => H' = H ∧ ∃ sd, σ = [some (.ref a), some (.int (prodI (l.take i))), sd] ∧ ∀ z ∈ l.take i, inSide z = true)
      ⟨rfl, _, rfl, fun z hz => by cases hz⟩ (fun i σ H' _ h => by rw [h.1]; exact hs) ?_ ?_⟩
    · rintro i x σ H' hi ⟨rfl, sd, rfl, ok⟩
      obtain ⟨z, hz, rfl⟩ := at_vi hi
      refine ⟨_, rfl, _, _, rfl, rfl, _, rfl, ?_⟩
      by_cases c1 : z < 1
      · rw [decide_eq_true c1]
        refine iteT (iteT ?_)
        have := fits_no hz (by omega)
        rw [this] at q
        exact q
      · rw [decide_eq_false c1]
        refine iteF ⟨_, rfl, _, _, rfl, rfl, _, rfl, ?_⟩
        by_cases c2 : 12 < z
        · rw [show decide ((12 : Int) < z) = true from decide_eq_true c2]
          refine iteT ?_
          have := fits_no hz (by omega)
          rw [this] at q
          exact q
        · rw [show decide ((12 : Int) < z) = false from decide_eq_false c2]
          have b := prod_lt (l := l.take i) (by rw [List.length_take]; omega) ok
          refine iteF ⟨_, rfl, _, rfl, _, _, rfl, rfl, .inl ⟨by omega, by omega⟩, rfl, some (.int z), ?_, ?_⟩
          · rw [prod_more hz]
            rfl
          · rw [take_more hz]
            intro y hy
            rcases List.mem_append.mp hy with hy | hy
            · exact ok y hy
            · have : y = z := by simpa using hy
              subst this
              exact inSide_iff.mpr (by omega)
    · rintro σ H' ⟨rfl, sd, rfl, ok⟩
      rw [List.length_map, List.take_length] at ok ⊢
      refine ⟨_, rfl, _, _, rfl, rfl, ?_⟩
      have e : fitsI l = decide (prodI l ≤ 600) := by
        unfold fitsI
        rw [List.all_eq_true.mpr ok, Bool.true_and]
      rw [e] at q
      exact q
theorem ok_fitsT {f : Addr} {fd : FuncData} (F : Fun K "fits" "fits" sFits f fd) (T : Txt K mg CL CG) : FnOk P w K mg base CX0 1 f fd ["sides"] (spFitsT K) := by
  refine F.ok scFits (fun vs H Q E h => ?_) (fun cdv A outer s H vs Q E hr h => ?_)
  · obtain ⟨_, _, rfl, _⟩ := h
    rfl
  · refine ⟨_, pss_cons (ps_set (i := 1) scFits.nd rfl (Or.inl rfl) pe_int)
      (pss_cons (ps_for PassesOwn.never rfl (pi_tup (pv 0)) (pg_name (i := 2) scFits.nd rfl (Or.inl rfl))
        (pss_cons (ps_if (PW.pt (pw_or (pt_cmpR op_lt (pv 2) pe_int (nomark _)) (pw_or1 (pt_cmpR op_gt (pv 2) (pe_gi T.gSIDE) (nomark _))))) (pss_one (ps_ret pe_bl)) pss_nil)
        (pss_one (ps_aug (i := 1) scFits.nd rfl (Or.inl rfl) (pv 2) iop_mul))))
      (pss_one (ps_ret (pe_cmpR op_le (pv 1) (pe_gi T.gCELLS) (nomark _))))), ?_⟩
    obtain ⟨a, l, rfl, hs, hl, q⟩ := h
    refine ⟨_, rfl, a, rfl, ⟨_, hs⟩, for_tup (K := K) (a := a) (xs := vi l) (fun i σ H' => H' = H ∧ ∃ sd, σ = [some (.ref a), some (.int (prodI (l.take i))), sd] ∧ ∀ z ∈ l.take i, inSide z = true)
      ⟨rfl, _, rfl, fun z hz => by cases hz⟩ (fun i σ H' _ h => by rw [h.1]; exact hs) ?_ ?_⟩
    · rintro i x σ H' hi ⟨rfl, sd, rfl, ok⟩
      obtain ⟨z, hz, rfl⟩ := at_vi hi
      refine ⟨_, rfl, _, _, rfl, rfl, _, rfl, ?_⟩
      by_cases c1 : z < 1
      · rw [decide_eq_true c1]
        refine iteT (iteT ?_)
        have := fits_no hz (by omega)
        rw [this] at q
        exact q
      · rw [decide_eq_false c1]
        refine iteF ⟨_, rfl, _, _, rfl, rfl, _, rfl, ?_⟩
        by_cases c2 : 12 < z
        · rw [show decide ((12 : Int) < z) = true from decide_eq_true c2]
          refine iteT ?_
          have := fits_no hz (by omega)
          rw [this] at q
          exact q
        · rw [show decide ((12 : Int) < z) = false from decide_eq_false c2]
          have b := prod_lt (l := l.take i) (by rw [List.length_take]; omega) ok
          refine iteF ⟨_, rfl, _, rfl, _, _, rfl, rfl, .inl ⟨by omega, by omega⟩, rfl, some (.int z), ?_, ?_⟩
          · rw [prod_more hz]
            rfl
          · rw [take_more hz]
            intro y hy
            rcases List.mem_append.mp hy with hy | hy
            · exact ok y hy
            · have : y = z := by simpa using hy
              subst this
              exact inSide_iff.mpr (by omega)
    · rintro σ H' ⟨rfl, sd, rfl, ok⟩
      rw [List.length_map, List.take_length] at ok ⊢
      refine ⟨_, rfl, _, _, rfl, rfl, ?_⟩
      have e : fitsI l = decide (prodI l ≤ 600) := by
        unfold fitsI
        rw [List.all_eq_true.mpr ok, Bool.true_and]
      rw [e] at q
      exact q
end
end Gr
set_option Elab.async false
set_option linter.all false
set_option maxRecDepth 100000
set_option maxHeartbeats 4000000
namespace Gr
open PySem PySem.Spec PyProof.Rows L2
open Vbwsar (Ground)
/-- the number of the cell there, or None -/
def cellV (X Y Z : Nat) (x y z : Int) : V := if (0 ≤ x ∧ x < X) ∧ (0 ≤ y ∧ y < Y) ∧ (0 ≤ z ∧ z < Z) then .int ((z * Y + y) * X + x) else .non
abbrev sCell : Stmt := inClass (top 4) 1
abbrev NCell : List Str := ["self", "x", "y", "z", "width", "depth", "height"]
theorem scCell : FnScope NCell ["self", "x", "y", "z"] (defScope sCell) := ⟨rfl, rfl, rfl, by decide +kernel, rfl, by decide +kernel, by decide +kernel⟩
/-- at a stands an instance with these sides -/
def SidesAt (CL : Addr) (H : Hp) (a : Addr) (X Y Z : Nat) : Prop := ∃ dx fs sa, H a = some (.ins CL dx fs) ∧ fs.lookup ("sides" : Str) = some (.ref sa) ∧ H sa = some (.tup [.int (X : Int), .int (Y : Int), .int (Z : Int)]) ∧ X ≤ 600 ∧ Y ≤ 600 ∧ Z ≤ 600
theorem SidesAt.same {CL : Addr} {H H' : Hp} {a : Addr} {X Y Z : Nat} (h : SidesAt CL H a X Y Z) (s : Same H H') : SidesAt CL H' a X Y Z := by
  obtain ⟨dx, fs, sa, h1, h2, h3, h4⟩ := h
  exact ⟨dx, fs, sa, s _ _ h1, h2, s _ _ h3, h4⟩
def spCellAt (CL : Addr) : Sp := fun vs H Q _ => ∃ (a : Addr) (X Y Z : Nat) (x y z : Int), vs = [.ref a, .int x, .int y, .int z] ∧ SidesAt CL H a X Y Z ∧ Q (cellV X Y Z x y z) H
theorem chain_bools (x : Int) (X : Nat) : True := trivial
section
variable {P : Program} {w : World} {K : PySem.W.Frag} {mg : Str → Option Value} {base : Heap} {CL CG : Addr}
theorem ok_cell {f : Addr} {fd : FuncData} (F : Fun K "cell_at" "Layout.cell_at" sCell f fd) (T : Txt K mg CL CG) : FnOk P w K mg base CX0 1 f fd ["self", "x", "y", "z"] (spCellAt CL) := by
  refine F.ok scCell (fun vs H Q E h => ?_) (fun cdv A outer s H vs Q E hr h => ?_)
  · obtain ⟨_, _, _, _, _, _, _, rfl, _⟩ := h
    rfl
  · refine ⟨_, pss_cons (ps_asg (pe_fld (pv 0) rfl) (pg_tup (by rfl) (pgs_cons (pg_name (i := 4) scCell.nd rfl (Or.inl rfl)) (pgs_cons (pg_name (i := 5) scCell.nd rfl (Or.inl rfl)) (pgs_cons (pg_name (i := 6) scCell.nd rfl (Or.inl rfl)) pgs_nil)))))
      (pss_cons (ps_if (PW.pt (pw_and (pt_chain op_le op_lt pe_int (pv 1) (pv 4)) (pw_and (pt_chain op_le op_lt pe_int (pv 2) (pv 5)) (pw_and1 (pt_chain op_le op_lt pe_int (pv 3) (pv 6))))))
        (pss_one (ps_ret (pe_op op_add (pe_op op_mul (pe_op op_add (pe_op op_mul (pv 3) (pv 5)) (pv 2)) (pv 4)) (pv 1)))) pss_nil)
      (pss_one (ps_ret pe_non))), ?_⟩
    obtain ⟨a, X, Y, Z, x, y, z, rfl, ⟨dx, fs, sa, h1, h2, h3, hX, hY, hZ⟩, q⟩ := h
    refine ⟨_, rfl, a, CL, dx, fs, _, rfl, h1, T.clL, T.aSides, h2, sa, _, rfl, SqT.of h3, rfl, _, _, rfl, _, _, rfl, _, _, rfl, rfl, ?_⟩
    unfold cellV at q
    refine ⟨_, rfl, _, _, rfl, rfl, _, rfl, ?_⟩
    by_cases x1 : 0 ≤ x
    · rw [decide_eq_true x1]
      refine iteT ⟨_, rfl, _, _, rfl, rfl, _, rfl, ?_⟩
      by_cases x2 : x < X
      · rw [show decide (x < (X : Int)) = true from decide_eq_true x2]
        refine iteT ⟨_, rfl, _, _, rfl, rfl, _, rfl, ?_⟩
        by_cases y1 : 0 ≤ y
        · rw [decide_eq_true y1]
          refine iteT ⟨_, rfl, _, _, rfl, rfl, _, rfl, ?_⟩
          by_cases y2 : y < Y
          · rw [show decide (y < (Y : Int)) = true from decide_eq_true y2]
            refine iteT ⟨_, rfl, _, _, rfl, rfl, _, rfl, ?_⟩
            by_cases z1 : 0 ≤ z
            · rw [decide_eq_true z1]
              refine iteT ⟨_, rfl, _, _, rfl, rfl, _, rfl, ?_⟩
              by_cases z2 : z < Z
              · rw [show decide (z < (Z : Int)) = true from decide_eq_true z2]
                rw [if_pos ⟨⟨x1, x2⟩, ⟨y1, y2⟩, ⟨z1, z2⟩⟩] at q
                refine iteT ⟨_, rfl, _, rfl, _, _, rfl, rfl, .inl ⟨by omega, by omega⟩, _, rfl, _, _, rfl, rfl, _, rfl, _, _, rfl, rfl, .inr ⟨by omega, by omega⟩, _, rfl, _, _, rfl, rfl, ?_⟩
                exact q
              · rw [show decide (z < (Z : Int)) = false from decide_eq_false z2]
                rw [if_neg (fun c => z2 c.2.2.2)] at q
                exact iteF q
            · rw [decide_eq_false z1]
              rw [if_neg (fun c => z1 c.2.2.1)] at q
              exact iteF ⟨_, rfl, iteF q⟩
          · rw [show decide (y < (Y : Int)) = false from decide_eq_false y2]
            rw [if_neg (fun c => y2 c.2.1.2)] at q
            exact iteF (iteF q)
        · rw [decide_eq_false y1]
          rw [if_neg (fun c => y1 c.2.1.1)] at q
          exact iteF ⟨_, rfl, iteF (iteF q)⟩
      · rw [show decide (x < (X : Int)) = false from decide_eq_false x2]
        rw [if_neg (fun c => x2 c.1.2)] at q
        exact iteF (iteF q)
    · rw [decide_eq_false x1]
      rw [if_neg (fun c => x1 c.1.1)] at q
      exact iteF ⟨_, rfl, iteF (iteF q)⟩
end
end Gr
set_option Elab.async false
set_option linter.all false
set_option maxRecDepth 100000
set_option maxHeartbeats 4000000
namespace Gr
open PySem PySem.Spec PyProof.Rows L2
open Vbwsar (Ground)
/-! ## place_of -/
abbrev sPlaceOf : Stmt := inClass (top 4) 2
abbrev NPlaceOf : List Str := ["self", "cell", "width", "in_layer"]
theorem scPlaceOf : FnScope NPlaceOf ["self", "cell"] (defScope sPlaceOf) := ⟨rfl, rfl, rfl, by decide +kernel, rfl, by decide +kernel, by decide +kernel⟩
def rowN (g : Ground) (k : Nat) : List Nat := [k % g.sx, k / g.sx % g.sy, k / g.sx / g.sy]
def spPlaceOf (CL : Addr) : Sp := fun vs H Q _ => ∃ (a : Addr) (g : Ground) (k : Nat), vs = [.ref a, .int (k : Int)] ∧ Lay CL H a g ∧ k < Vbwsar.size g ∧ Vbwsar.size g ≤ 600 ∧
  ∀ H' p, Same H H' → H p = none → IL H' p (rowN g k) → Q (.ref p) H'
theorem fmodN (a b : Nat) : Int.fmod (a : Int) (b : Int) = ((a % b : Nat) : Int) := by
  rw [Int.fmod_eq_emod_of_nonneg _ (Int.natCast_nonneg b), Int.natCast_emod]
theorem fdivN (a b : Nat) : Int.fdiv (a : Int) (b : Int) = ((a / b : Nat) : Int) := by
  rw [Int.fdiv_eq_ediv_of_nonneg _ (Int.natCast_nonneg b), Int.natCast_ediv]
theorem sides_pos {g : Ground} {k : Nat} (h : k < Vbwsar.size g) (sz : Vbwsar.size g ≤ 600) : (1 ≤ g.sx ∧ g.sx ≤ 600) ∧ (1 ≤ g.sy ∧ g.sy ≤ 600) ∧ (1 ≤ g.sz ∧ g.sz ≤ 600) ∧ (1 ≤ g.sx * g.sy ∧ g.sx * g.sy ≤ 600) := by
  obtain ⟨x, y, z, hx, hy, hz, rfl⟩ := GT.coords h
  unfold Vbwsar.size at sz
  have a : g.sx * 1 ≤ g.sx * (g.sy * g.sz) := Nat.mul_le_mul_left _ (Nat.mul_pos (by omega) (by omega))
  have b : g.sy * 1 ≤ g.sy * g.sz := Nat.mul_le_mul_left _ (by omega)
  have c : 1 * g.sz ≤ g.sy * g.sz := Nat.mul_le_mul_right _ (by omega)
  have d : 1 * (g.sy * g.sz) ≤ g.sx * (g.sy * g.sz) := Nat.mul_le_mul_right _ (by omega)
  have e : g.sx * g.sy * 1 ≤ g.sx * g.sy * g.sz := Nat.mul_le_mul_left _ (by omega)
  rw [Nat.mul_assoc g.sx g.sy g.sz] at e
  have f : 0 < g.sx * g.sy := Nat.mul_pos (by omega) (by omega)
  omega
section
variable {P : Program} {w : World} {K : PySem.W.Frag} {mg : Str → Option Value} {base : Heap} {CL CG : Addr}
theorem ok_placeOf {f : Addr} {fd : FuncData} (F : Fun K "place_of" "Layout.place_of" sPlaceOf f fd) (T : Txt K mg CL CG) : FnOk P w K mg base CX0 1 f fd ["self", "cell"] (spPlaceOf CL) := by
  refine F.ok scPlaceOf (fun vs H Q E h => ?_) (fun cdv A outer s H vs Q E hr h => ?_)
  · obtain ⟨_, _, _, rfl, _⟩ := h
    rfl
  · refine ⟨_, pss_cons (ps_set (i := 2) scPlaceOf.nd rfl (Or.inl rfl) (pe_ix ix_tup (pe_fld (pv 0) rfl) pe_int (fun _ _ => rfl)))
      (pss_cons (ps_set (i := 3) scPlaceOf.nd rfl (Or.inl rfl) (pe_op op_modN (pv 1) (pe_fld (pv 0) rfl)))
      (pss_one (ps_ret (pe_lst (pa_cons (pe_op op_modN (pv 3) (pv 2)) (pa_cons (pe_op op_fdivN (pv 3) (pv 2)) (pa_cons (pe_op op_fdivN (pv 1) (pe_fld (pv 0) rfl)) pa_nil))))))), ?_⟩
    obtain ⟨a, g, k, rfl, ⟨d, L⟩, hk, sz, q⟩ := h
    obtain ⟨⟨x1, x2⟩, ⟨y1, y2⟩, ⟨z1, z2⟩, ⟨l1, l2⟩⟩ := sides_pos hk sz
    refine ⟨_, rfl, a, CL, d.dx, _, _, rfl, L.ins, T.clL, T.aSides, L.fSides, d.sa, _, 0, _, rfl, rfl, SqT.of L.sides, rfl, ?_⟩
    refine ⟨_, rfl, _, rfl, a, CL, d.dx, _, _, rfl, L.ins, T.clL, T.aSize, L.fSize, _, _, rfl, rfl, by omega, ?_⟩
    rw [show (fun i j : Int => V.int (i.fmod j)) (k : Int) ((g.sx * g.sy : Nat) : Int) = V.int ((k % (g.sx * g.sy) : Nat) : Int) from congrArg V.int (fmodN _ _)]
    refine ⟨_, rfl, _, rfl, _, _, rfl, rfl, by omega, _, rfl, _, rfl, _, _, rfl, rfl, ⟨by omega, by omega⟩, _, rfl, _, rfl, a, CL, d.dx, _, _, rfl, L.ins, T.clL, T.aSize, L.fSize, _, _, rfl, rfl, ⟨by omega, by omega⟩, (by show 3 ≤ sizeLine; decide), fun p hp => ?_⟩
    refine q _ p (same_new hp) hp ?_
    unfold IL
    rw [upd_same]
    show some (HO.lst [V.int (Int.fmod ((k % (g.sx * g.sy) : Nat) : Int) (g.sx : Int)), V.int (Int.fdiv ((k % (g.sx * g.sy) : Nat) : Int) (g.sx : Int)), V.int (Int.fdiv (k : Int) ((g.sx * g.sy : Nat) : Int))]) = some (HO.lst [V.int ((k % g.sx : Nat) : Int), V.int ((k / g.sx % g.sy : Nat) : Int), V.int ((k / g.sx / g.sy : Nat) : Int)])
    rw [fmodN, fdivN, fdivN, Nat.mod_mul_right_mod, Nat.mod_mul_right_div_self, Nat.div_div_eq_div_mul]
end
/-! ## cells_among -/
abbrev sAmong : Stmt := inClass (top 4) 3
abbrev NAmong : List Str := ["self", "places", "cells", "x", "y", "z", "cell"]
theorem scAmong : FnScope NAmong ["self", "places"] (defScope sAmong) := ⟨rfl, rfl, rfl, by decide +kernel, rfl, by decide +kernel, by decide +kernel⟩
abbrev C3 := Int × Int × Int
def cellO (X Y Z : Nat) (c : C3) : Option Nat := if (0 ≤ c.1 ∧ c.1 < X) ∧ (0 ≤ c.2.1 ∧ c.2.1 < Y) ∧ (0 ≤ c.2.2 ∧ c.2.2 < Z) then some ((c.2.2.toNat * Y + c.2.1.toNat) * X + c.1.toNat) else none
theorem cellV_is {X Y Z : Nat} {c : C3} : cellV X Y Z c.1 c.2.1 c.2.2 = optV (cellO X Y Z c) := by
  unfold cellV cellO
  by_cases h : (0 ≤ c.1 ∧ c.1 < X) ∧ (0 ≤ c.2.1 ∧ c.2.1 < Y) ∧ (0 ≤ c.2.2 ∧ c.2.2 < Z)
  · rw [if_pos h, if_pos h]
    obtain ⟨⟨a, _⟩, ⟨b, _⟩, e, _⟩ := h
    show V.int _ = V.int _
    rw [Int.natCast_add, Int.natCast_mul, Int.natCast_add, Int.natCast_mul, Int.toNat_of_nonneg a, Int.toNat_of_nonneg b, Int.toNat_of_nonneg e]
  · rw [if_neg h, if_neg h]
    rfl
abbrev tup3 (c : C3) : HO := .tup [.int c.1, .int c.2.1, .int c.2.2]
/-- at pl stands a list of these places -/
def Places (H : Hp) (pl : Addr) (cs : List C3) : Prop := ∃ vl : List V, H pl = some (.lst vl) ∧ vl.length = cs.length ∧ ∀ (i : Nat) (v : V), vl[i]? = some v → ∃ t c, v = V.ref t ∧ cs[i]? = some c ∧ H t = some (tup3 c)
theorem Places.same {H H' : Hp} {pl : Addr} {cs : List C3} (h : Places H pl cs) (s : Same H H') : Places H' pl cs := by
  obtain ⟨vl, h1, h2, h3⟩ := h
  refine ⟨vl, s _ _ h1, h2, fun i v e => ?_⟩
  obtain ⟨t, c, a, b, d⟩ := h3 i v e
  exact ⟨t, c, a, b, s _ _ d⟩
def spAmong (CL : Addr) : Sp := fun vs H Q _ => ∃ (a pl : Addr) (X Y Z : Nat) (cs : List C3), vs = [.ref a, .ref pl] ∧ SidesAt CL H a X Y Z ∧ (∃ dx fs, H a = some (.ins CL dx fs) ∧ fs.lookup ("cell_at" : Str) = none) ∧ Places H pl cs ∧ cs.length ≤ 6 ∧
  ∀ H' D, Same H H' → H D = none → IL H' D (cs.filterMap (cellO X Y Z)) → Q (.ref D) H'
/-- None left out -/
theorem kept_map (f : C3 → Option Nat) : ∀ cs : List C3, (cs.map fun c => optV (f c)).filter (fun v => !decide (v = V.non)) = vn (cs.filterMap f)
  | [] => rfl
  | c :: cs => by
    rw [List.map_cons, List.filter_cons, kept_map f cs, List.filterMap_cons]
    cases f c with
    | none => rfl
    | some j => rfl
section
variable {P : Program} {w : World} {K : PySem.W.Frag} {mg : Str → Option Value} {base : Heap} {CL CG : Addr}
theorem ok_among {f fC : Addr} {fd fdC : FuncData} (F : Fun K "cells_among" "Layout.cells_among" sAmong f fd) (T : Txt K mg CL CG)
    (FC : Fun K "cell_at" "Layout.cell_at" sCell fC fdC) (mC : Meth K CL "cell_at" fC) (bC : Binds K fdC ["self", "x", "y", "z"] []) : FnOk P w K mg base CX0 2 f fd ["self", "places"] (spAmong CL) := by
  have GC : FnOk P w K mg base CX0 1 fC fdC ["self", "x", "y", "z"] (spCellAt CL) := ok_cell FC T
  refine F.ok scAmong (fun vs H Q E h => ?_) (fun cdv A outer s H vs Q E hr h => ?_)
  · obtain ⟨_, _, _, _, _, _, rfl, _⟩ := h
    rfl
  · refine ⟨_, pss_cons (ps_setLc (i := 2) (own := [("x", 3), ("y", 4), ("z", 5)]) (g := gTup K 3 (gCons (gName 3) (gCons (gName 4) (gCons (gName 5) gNil)))) rfl scAmong.nd rfl rfl (sw_true rfl rfl rfl (by decide +kernel))
        (pi_list (pv 1)) (blkOk_by (N := NAmong) (sc := defScope sAmong) (by decide +kernel))
        (fun _ _ _ _ _ => pg_tup rfl (pgs_cons (pg_name (i := 3) scAmong.nd rfl (Or.inl rfl)) (pgs_cons (pg_name (i := 4) scAmong.nd rfl (Or.inl rfl)) (pgs_cons (pg_name (i := 5) scAmong.nd rfl (Or.inl rfl)) pgs_nil))))
        (fun _ _ _ _ _ => pts_nil)
        (fun _ _ _ _ _ => pe_meth (pv 0) T.clL mC GC hr bC .nil pass0 (pa_cons (pv 3) (pa_cons (pv 4) (pa_cons (pv 5) pa_nil)))))
      (pss_one (ps_ret (pe_lc (own := [("cell", 6)]) (g := gName 6) rfl scAmong.nd (pi_list (pv 2)) (blkOk_by (N := NAmong) (sc := defScope sAmong) (by decide +kernel))
        (fun _ _ _ _ _ => pg_name (i := 6) scAmong.nd rfl (Or.inl rfl))
        (fun _ _ _ _ _ => pts_one (pt_cmpR op_notN (pv 6) pe_non (nomark _)))
        (fun _ _ _ _ _ => pv 6)))), ?_⟩
    obtain ⟨a, pl, X, Y, Z, cs, rfl, hs, ⟨dx0, fs0, h0, hn⟩, ⟨vl, h1, h2, h3⟩, h4, q⟩ := h
    have small : ∀ n, n ≤ 6 → n < sizeLine := fun n h => small1000 (by omega)
    refine ⟨_, rfl, pl, rfl, ⟨_, SqL.of h1⟩, fun D1 hD1 => ?_⟩
    refine lc_list (K := K) (a := pl) (xs := vl) (fun i H' => Same H H' ∧ H' D1 = some (.lst ((cs.take i).map fun c => optV (cellO X Y Z c)))) ⟨same_new hD1, upd_same⟩ (fun i H' _ h => SqL.of (h.1 _ _ h1)) ?_ ?_
    · rintro i v H1 hi ⟨s1, e1⟩
      obtain ⟨t, c, rfl, hc, ht⟩ := h3 i v hi
      refine ⟨t, _, rfl, SqT.of (s1 _ _ ht), rfl, _, _, rfl, _, _, rfl, _, _, rfl, rfl, rfl, ?_⟩
      refine ⟨_, rfl, a, dx0, fs0, rfl, s1 _ _ h0, hn, _, rfl, _, rfl, _, rfl, a, X, Y, Z, c.1, c.2.1, c.2.2, rfl, hs.same s1, _, e1, ?_, same_upd s1 hD1, ?_⟩
      · rw [List.length_map, List.length_take]
        exact small _ (by omega)
      · rw [upd_same, take_more hc, List.map_append, cellV_is]
        rfl
    · rintro H1 ⟨s1, e1⟩
      rw [h2, List.take_length] at e1
      refine ⟨_, rfl, D1, rfl, ⟨_, SqL.of e1⟩, fun D2 hD2 => ?_⟩
      refine lc_pure (fun x => x) (fun v => !decide (v = V.non)) hD2 (by rw [List.length_map]; exact small _ h4) (SqL.of e1) (fun x => rfl) (fun x hx H2 s2 Q h => ?_) (fun x hx _ H2 s2 Q h => ⟨_, rfl, h H2 (Same.refl H2)⟩) (fun H2 s2 e2 => ?_)
      · refine ⟨_, rfl, rfl, _, rfl, ?_⟩
        have h' := h H2 (Same.refl H2)
        revert h'
        cases decide (x = V.non) <;> intro h' <;> exact h'
      · rw [kept_map, List.map_id'] at e2
        exact q H2 D2 (s1.trans s2) (s1.free hD2) e2
end
end Gr
set_option Elab.async false
set_option linter.all false
set_option maxRecDepth 100000
set_option maxHeartbeats 4000000
namespace Gr
open PySem PySem.Spec PyProof.Rows L2
open Vbwsar (Ground)
/-! ## note_neighbours: the mathematics -/
theorem cellO_is {g : Ground} {x y z : Nat} : cellO g.sx g.sy g.sz ((x : Int), (y : Int), (z : Int)) = if x < g.sx ∧ y < g.sy ∧ z < g.sz then some (Vbwsar.keyOf g ⟨x, y, z⟩) else none := by
  unfold cellO
  by_cases h : x < g.sx ∧ y < g.sy ∧ z < g.sz
  · rw [if_pos h, if_pos (by dsimp only; omega)]
    rfl
  · rw [if_neg h, if_neg (by dsimp only; omega)]
theorem cellO_out {g : Ground} {c : C3} (h : c.1 < 0 ∨ c.2.1 < 0 ∨ c.2.2 < 0) : cellO g.sx g.sy g.sz c = none := by
  unfold cellO
  rw [if_neg (by omega)]
theorem subO (n : Nat) : (n : Int) - 1 = if 0 < n then ((n - 1 : Nat) : Int) else -1 := by
  split <;> omega
section
variable {g : Ground} {x y z : Nat} (hx : x < g.sx) (hy : y < g.sy) (hz : z < g.sz)
include hx hy hz
theorem cellO_xl : cellO g.sx g.sy g.sz ((x : Int) - 1, (y : Int), (z : Int)) = if 0 < x then some (Vbwsar.keyOf g ⟨x - 1, y, z⟩) else none := by
  rw [subO]
  by_cases c : 0 < x
  · rw [if_pos c, if_pos c, cellO_is, if_pos ⟨by omega, hy, hz⟩]
  · rw [if_neg c, if_neg c]
    exact cellO_out (.inl (by show (-1 : Int) < 0; decide))
theorem cellO_xr : cellO g.sx g.sy g.sz ((x : Int) + 1, (y : Int), (z : Int)) = if x + 1 < g.sx then some (Vbwsar.keyOf g ⟨x + 1, y, z⟩) else none := by
  show cellO g.sx g.sy g.sz (((x + 1 : Nat) : Int), (y : Int), (z : Int)) = _
  rw [cellO_is]
  by_cases c : x + 1 < g.sx
  · rw [if_pos c, if_pos ⟨c, hy, hz⟩]
  · rw [if_neg c, if_neg (fun q => c q.1)]
theorem cellO_yl : cellO g.sx g.sy g.sz ((x : Int), (y : Int) - 1, (z : Int)) = if 0 < y then some (Vbwsar.keyOf g ⟨x, y - 1, z⟩) else none := by
  rw [subO]
  by_cases c : 0 < y
  · rw [if_pos c, if_pos c, cellO_is, if_pos ⟨hx, by omega, hz⟩]
  · rw [if_neg c, if_neg c]
    exact cellO_out (.inr (.inl (by show (-1 : Int) < 0; decide)))
theorem cellO_yr : cellO g.sx g.sy g.sz ((x : Int), (y : Int) + 1, (z : Int)) = if y + 1 < g.sy then some (Vbwsar.keyOf g ⟨x, y + 1, z⟩) else none := by
  show cellO g.sx g.sy g.sz ((x : Int), ((y + 1 : Nat) : Int), (z : Int)) = _
  rw [cellO_is]
  by_cases c : y + 1 < g.sy
  · rw [if_pos c, if_pos ⟨hx, c, hz⟩]
  · rw [if_neg c, if_neg (fun q => c q.2.1)]
theorem cellO_below : cellO g.sx g.sy g.sz ((x : Int), (y : Int), (z : Int) - 1) = Vbwsar.below g (Vbwsar.keyOf g ⟨x, y, z⟩) := by
  rw [subO, GT.below_key hx hy]
  by_cases c : 0 < z
  · rw [if_pos c, if_pos c, cellO_is, if_pos ⟨hx, hy, by omega⟩]
  · rw [if_neg c, if_neg c]
    exact cellO_out (.inr (.inr (by show (-1 : Int) < 0; decide)))
theorem cellO_above : cellO g.sx g.sy g.sz ((x : Int), (y : Int), (z : Int) + 1) = Vbwsar.above g (Vbwsar.keyOf g ⟨x, y, z⟩) := by
  show cellO g.sx g.sy g.sz ((x : Int), (y : Int), ((z + 1 : Nat) : Int)) = _
  rw [cellO_is, GT.above_key hx hy]
  by_cases c : z + 1 < g.sz
  · rw [if_pos c, if_pos ⟨hx, hy, c⟩]
  · rw [if_neg c, if_neg (fun q => c q.2.2)]
omit hx hy hz in
abbrev besideC (x y z : Nat) : List C3 := [((x : Int) - 1, (y : Int), (z : Int)), ((x : Int) + 1, (y : Int), (z : Int)), ((x : Int), (y : Int) - 1, (z : Int)), ((x : Int), (y : Int) + 1, (z : Int))]
omit hx hy hz in
theorem fm_cons {A B : Type} {f : A → Option B} {a : A} {l : List A} : (a :: l).filterMap f = (f a).toList ++ l.filterMap f := by
  rw [List.filterMap_cons]
  cases f a <;> rfl
omit hx hy hz in
theorem ite_list {c : Prop} [Decidable c] {a : Nat} : (if c then some a else none : Option Nat).toList = if c then [a] else [] := by
  split <;> rfl
theorem beside_cells : (besideC x y z).filterMap (cellO g.sx g.sy g.sz) = Vbwsar.beside g (Vbwsar.keyOf g ⟨x, y, z⟩) := by
  rw [fm_cons, fm_cons, fm_cons, fm_cons, List.filterMap_nil, List.append_nil, cellO_xl hx hy hz, cellO_xr hx hy hz, cellO_yl hx hy hz, cellO_yr hx hy hz, GT.beside_key hx hy]
  rw [ite_list, ite_list, ite_list, ite_list]
theorem about_cells : (([((x : Int), (y : Int), (z : Int) - 1)] ++ besideC x y z) ++ [((x : Int), (y : Int), (z : Int) + 1)]).filterMap (cellO g.sx g.sy g.sz) = Vbwsar.around g (Vbwsar.keyOf g ⟨x, y, z⟩) := by
  rw [List.filterMap_append, List.filterMap_append, beside_cells hx hy hz, fm_cons, fm_cons, List.filterMap_nil, List.append_nil, List.append_nil, cellO_below hx hy hz, cellO_above hx hy hz, List.append_assoc]
  rfl
end
/-! ## a Layout while it is made -/
structure LB (CL : Addr) (H0 H : Hp) (p : Addr) (g : Ground) (n1 n2 n3 : Nat) (d : LayD) (HN : Hp) : Prop where
  ins : H p = some (.ins CL d.dx d.fs)
  fSides : d.fs.lookup ("sides" : Str) = some (.ref d.sa)
  fSize : d.fs.lookup ("layer_size" : Str) = some (.int ((g.sx * g.sy : Nat) : Int))
  fBelow : d.fs.lookup ("below" : Str) = some (.ref d.be)
  fBeside : d.fs.lookup ("beside" : Str) = some (.ref d.bs)
  fAbout : d.fs.lookup ("about" : Str) = some (.ref d.ab)
  nCell : d.fs.lookup ("cell_at" : Str) = none
  nPlace : d.fs.lookup ("place_of" : Str) = none
  nAmong : d.fs.lookup ("cells_among" : Str) = none
  nNote : d.fs.lookup ("note_neighbours" : Str) = none
  sides : H d.sa = some (.tup [.int (g.sx : Int), .int (g.sy : Int), .int (g.sz : Int)])
  sides0 : H0 d.sa ≠ none
  keep : ∀ c o, H0 c = some o → c ≠ p → H c = some o
  sub : Same HN H
  fresh : ∀ c o, HN c = some o → H0 c = none
  be0 : H0 d.be = none ∧ HN d.be = none
  bs0 : H0 d.bs = none ∧ HN d.bs = none
  ab0 : H0 d.ab = none ∧ HN d.ab = none
  p0 : HN p = none
  n12 : d.be ≠ d.bs
  n13 : d.be ≠ d.ab
  n23 : d.bs ≠ d.ab
  below : H d.be = some (.lst ((List.range n1).map fun k => optV (Vbwsar.below g k)))
  beside : H d.bs = some (.lst (d.bl.map V.ref))
  about : H d.ab = some (.lst (d.al.map V.ref))
  blen : d.bl.length = n2
  alen : d.al.length = n3
  bat : ∀ k, k < n2 → IL HN (d.bl.getD k 0) (Vbwsar.beside g k)
  aat : ∀ k, k < n3 → IL HN (d.al.getD k 0) (Vbwsar.around g k)
  most : g.sx ≤ 600 ∧ g.sy ≤ 600 ∧ g.sz ≤ 600
section
variable {CL : Addr} {H0 H H' HN : Hp} {p : Addr} {g : Ground} {n1 n2 n3 : Nat} {d : LayD}
theorem LB.same (h : LB CL H0 H p g n1 n2 n3 d HN) (s : Same H H') : LB CL H0 H' p g n1 n2 n3 d HN :=
  ⟨s _ _ h.ins, h.fSides, h.fSize, h.fBelow, h.fBeside, h.fAbout, h.nCell, h.nPlace, h.nAmong, h.nNote, s _ _ h.sides, h.sides0, fun c o e n => s _ _ (h.keep c o e n), h.sub.trans s, h.fresh, h.be0, h.bs0, h.ab0, h.p0, h.n12, h.n13, h.n23,
    s _ _ h.below, s _ _ h.beside, s _ _ h.about, h.blen, h.alen, h.bat, h.aat, h.most⟩
theorem LB.sidesAt (h : LB CL H0 H p g n1 n2 n3 d HN) : SidesAt CL H p g.sx g.sy g.sz := ⟨d.dx, d.fs, d.sa, h.ins, h.fSides, h.sides, h.most⟩
theorem LB.neP {a : Addr} {o : List V} (h : LB CL H0 H p g n1 n2 n3 d HN) (e : H a = some (.lst o)) : p ≠ a := ne_of h.ins e (by intro z; cases z)
theorem LB.neS {a : Addr} {o : List V} (h : LB CL H0 H p g n1 n2 n3 d HN) (e : H a = some (.lst o)) : d.sa ≠ a := ne_of h.sides e (by intro z; cases z)
theorem same_off {HN H : Hp} {a : Addr} {o : HO} (s : Same HN H) (h : HN a = none) : Same HN (upd H a o) := same_upd s h
theorem LB.add1 (h : LB CL H0 H p g n1 n2 n3 d HN) : LB CL H0 (upd H d.be (.lst ((List.range n1).map (fun k => optV (Vbwsar.below g k)) ++ [optV (Vbwsar.below g n1)]))) p g (n1 + 1) n2 n3 d HN :=
  ⟨by rw [upd_ne (h.neP h.below)]; exact h.ins, h.fSides, h.fSize, h.fBelow, h.fBeside, h.fAbout, h.nCell, h.nPlace, h.nAmong, h.nNote, by rw [upd_ne (h.neS h.below)]; exact h.sides, h.sides0,
    fun c o e n => by
      rw [upd_ne (fun z => by rw [z, h.be0.1] at e; cases e)]
      exact h.keep c o e n,
    same_off h.sub h.be0.2, h.fresh, h.be0, h.bs0, h.ab0, h.p0, h.n12, h.n13, h.n23,
    by rw [upd_same, range_more, List.map_append]; rfl,
    by rw [upd_ne h.n12.symm]; exact h.beside, by rw [upd_ne h.n13.symm]; exact h.about, h.blen, h.alen, h.bat, h.aat, h.most⟩
theorem getD_snoc {l : List Nat} {a k : Nat} : (l ++ [a]).getD k 0 = if k = l.length then a else l.getD k 0 := by
  rw [List.getD_eq_getElem?_getD, List.getD_eq_getElem?_getD]
  by_cases c : k = l.length
  · subst c
    rw [if_pos rfl, List.getElem?_append_right (Nat.le_refl _), Nat.sub_self]
    rfl
  · rw [if_neg c]
    by_cases q : k < l.length
    · rw [List.getElem?_append_left q]
    · rw [List.getElem?_eq_none (by rw [List.length_append]; show l.length + 1 ≤ k; omega), List.getElem?_eq_none (by omega)]
theorem IL.up {HN H : Hp} {a D : Addr} {l : List Nat} {o : HO} (h : IL HN a l) (n : HN D = none) : IL (upd HN D o) a l := by
  unfold IL
  rw [upd_ne (ne_of_none h n)]
  exact h
theorem Same.upd_both {HN H : Hp} {D : Addr} {o : HO} (s : Same HN H) (e : H D = some o) : Same (upd HN D o) H := fun b u q => by
  by_cases c : b = D
  · subst c
    rw [upd_same] at q
    rw [e, ← q]
  · rw [upd_ne c] at q
    exact s b u q
theorem LB.add2 {D : Addr} (h : LB CL H0 H p g n1 n2 n3 d HN) (hD : IL H D (Vbwsar.beside g n2)) (nD : H0 D = none) (nN : HN D = none) (n1' : D ≠ d.be) (n2' : D ≠ d.bs) (n3' : D ≠ d.ab) :
    LB CL H0 (upd H d.bs (.lst (d.bl.map V.ref ++ [V.ref D]))) p g n1 (n2 + 1) n3 { d with bl := d.bl ++ [D] } (upd HN D (.lst (vn (Vbwsar.beside g n2)))) :=
  ⟨by rw [upd_ne (h.neP h.beside)]; exact h.ins, h.fSides, h.fSize, h.fBelow, h.fBeside, h.fAbout, h.nCell, h.nPlace, h.nAmong, h.nNote, by rw [upd_ne (h.neS h.beside)]; exact h.sides, h.sides0,
    fun c o e n => by
      rw [upd_ne (fun z => by rw [z, h.bs0.1] at e; cases e)]
      exact h.keep c o e n,
    same_off (Same.upd_both h.sub hD) (by rw [upd_ne n2'.symm]; exact h.bs0.2),
    fun c o e => by
      by_cases q : c = D
      · rw [q]
        exact nD
      · rw [upd_ne q] at e
        exact h.fresh c o e,
    ⟨h.be0.1, by rw [upd_ne n1'.symm]; exact h.be0.2⟩, ⟨h.bs0.1, by rw [upd_ne n2'.symm]; exact h.bs0.2⟩, ⟨h.ab0.1, by rw [upd_ne n3'.symm]; exact h.ab0.2⟩, by rw [upd_ne (h.neP hD)]; exact h.p0, h.n12, h.n13, h.n23,
    by rw [upd_ne h.n12]; exact h.below, by rw [upd_same, List.map_append]; rfl, by rw [upd_ne h.n23.symm]; exact h.about, by rw [List.length_append, h.blen]; rfl, h.alen,
    fun k hk => by
      show IL _ ((d.bl ++ [D]).getD k 0) _
      rw [getD_snoc, h.blen]
      by_cases q : k = n2
      · rw [if_pos q, q]
        unfold IL
        rw [upd_same]
      · rw [if_neg q]
        exact IL.up (H := H) (h.bat k (by omega)) nN,
    fun k hk => IL.up (H := H) (h.aat k hk) nN, h.most⟩
theorem LB.add3 {D : Addr} (h : LB CL H0 H p g n1 n2 n3 d HN) (hD : IL H D (Vbwsar.around g n3)) (nD : H0 D = none) (nN : HN D = none) (n1' : D ≠ d.be) (n2' : D ≠ d.bs) (n3' : D ≠ d.ab) :
    LB CL H0 (upd H d.ab (.lst (d.al.map V.ref ++ [V.ref D]))) p g n1 n2 (n3 + 1) { d with al := d.al ++ [D] } (upd HN D (.lst (vn (Vbwsar.around g n3)))) :=
  ⟨by rw [upd_ne (h.neP h.about)]; exact h.ins, h.fSides, h.fSize, h.fBelow, h.fBeside, h.fAbout, h.nCell, h.nPlace, h.nAmong, h.nNote, by rw [upd_ne (h.neS h.about)]; exact h.sides, h.sides0,
    fun c o e n => by
      rw [upd_ne (fun z => by rw [z, h.ab0.1] at e; cases e)]
      exact h.keep c o e n,
    same_off (Same.upd_both h.sub hD) (by rw [upd_ne n3'.symm]; exact h.ab0.2),
    fun c o e => by
      by_cases q : c = D
      · rw [q]
        exact nD
      · rw [upd_ne q] at e
        exact h.fresh c o e,
    ⟨h.be0.1, by rw [upd_ne n1'.symm]; exact h.be0.2⟩, ⟨h.bs0.1, by rw [upd_ne n2'.symm]; exact h.bs0.2⟩, ⟨h.ab0.1, by rw [upd_ne n3'.symm]; exact h.ab0.2⟩, by rw [upd_ne (h.neP hD)]; exact h.p0, h.n12, h.n13, h.n23,
    by rw [upd_ne h.n13]; exact h.below, by rw [upd_ne h.n23]; exact h.beside, by rw [upd_same, List.map_append]; rfl, h.blen, by rw [List.length_append, h.alen]; rfl,
    fun k hk => IL.up (H := H) (h.bat k hk) nN,
    fun k hk => by
      show IL _ ((d.al ++ [D]).getD k 0) _
      rw [getD_snoc, h.alen]
      by_cases q : k = n3
      · rw [if_pos q, q]
        unfold IL
        rw [upd_same]
      · rw [if_neg q]
        exact IL.up (H := H) (h.aat k (by omega)) nN, h.most⟩
end
end Gr
set_option Elab.async false
set_option linter.all false
set_option maxRecDepth 100000
set_option maxHeartbeats 4000000
namespace Gr
open PySem PySem.Spec PyProof.Rows L2
open Vbwsar (Ground)
abbrev sNote : Stmt := inClass (top 4) 4
abbrev NNote : List Str := ["self", "x", "y", "z", "below", "beside", "above"]
theorem scNote : FnScope NNote ["self", "x", "y", "z"] (defScope sNote) := ⟨rfl, rfl, rfl, by decide +kernel, rfl, by decide +kernel, by decide +kernel⟩
def spNote (CL : Addr) : Sp := fun vs H Q _ => ∃ (p : Addr) (g : Ground) (H0 HN : Hp) (d : LayD) (x y z n : Nat), vs = [.ref p, .int (x : Int), .int (y : Int), .int (z : Int)] ∧ n = Vbwsar.keyOf g ⟨x, y, z⟩ ∧ x < g.sx ∧ y < g.sy ∧ z < g.sz ∧ n < 600 ∧ LB CL H0 H p g n n n d HN ∧
  ∀ H' d' HN', d'.sa = d.sa → LB CL H0 H' p g (n + 1) (n + 1) (n + 1) d' HN' → Q .non H'
theorem places4 {H : Hp} {pl t1 t2 t3 t4 : Addr} {c1 c2 c3 c4 : C3} (h : H pl = some (.lst [.ref t1, .ref t2, .ref t3, .ref t4])) (e1 : H t1 = some (tup3 c1)) (e2 : H t2 = some (tup3 c2)) (e3 : H t3 = some (tup3 c3)) (e4 : H t4 = some (tup3 c4)) : Places H pl [c1, c2, c3, c4] :=
  ⟨_, h, rfl, fun i v e => by
    match i, e with
    | 0, e => exact ⟨t1, c1, (Option.some.inj e).symm, rfl, e1⟩
    | 1, e => exact ⟨t2, c2, (Option.some.inj e).symm, rfl, e2⟩
    | 2, e => exact ⟨t3, c3, (Option.some.inj e).symm, rfl, e3⟩
    | 3, e => exact ⟨t4, c4, (Option.some.inj e).symm, rfl, e4⟩
    | (n + 4), e => simp at e⟩
theorem places6 {H : Hp} {pl t0 t1 t2 t3 t4 t5 : Addr} {c0 c1 c2 c3 c4 c5 : C3} (h : H pl = some (.lst (([.ref t0] ++ [.ref t1, .ref t2, .ref t3, .ref t4]) ++ [.ref t5]))) (e0 : H t0 = some (tup3 c0)) (e1 : H t1 = some (tup3 c1)) (e2 : H t2 = some (tup3 c2)) (e3 : H t3 = some (tup3 c3)) (e4 : H t4 = some (tup3 c4)) (e5 : H t5 = some (tup3 c5)) : Places H pl (([c0] ++ [c1, c2, c3, c4]) ++ [c5]) :=
  ⟨_, h, rfl, fun i v e => by
    match i, e with
    | 0, e => exact ⟨t0, c0, (Option.some.inj e).symm, rfl, e0⟩
    | 1, e => exact ⟨t1, c1, (Option.some.inj e).symm, rfl, e1⟩
    | 2, e => exact ⟨t2, c2, (Option.some.inj e).symm, rfl, e2⟩
    | 3, e => exact ⟨t3, c3, (Option.some.inj e).symm, rfl, e3⟩
    | 4, e => exact ⟨t4, c4, (Option.some.inj e).symm, rfl, e4⟩
    | 5, e => exact ⟨t5, c5, (Option.some.inj e).symm, rfl, e5⟩
    | (n + 6), e => simp at e⟩
theorem newS {H H' : Hp} {p : Addr} {o : HO} (h : H p = none) (e : upd H p o = H') : Same H H' ∧ H' p = some o := by
  subst e
  exact ⟨same_new h, upd_same⟩
section
variable {P : Program} {w : World} {K : PySem.W.Frag} {mg : Str → Option Value} {base : Heap} {CL CG : Addr}
theorem ok_note {f fC fA : Addr} {fd fdC fdA : FuncData} (F : Fun K "note_neighbours" "Layout.note_neighbours" sNote f fd) (T : Txt K mg CL CG)
    (FC : Fun K "cell_at" "Layout.cell_at" sCell fC fdC) (mC : Meth K CL "cell_at" fC) (bC : Binds K fdC ["self", "x", "y", "z"] [])
    (FA : Fun K "cells_among" "Layout.cells_among" sAmong fA fdA) (mA : Meth K CL "cells_among" fA) (bA : Binds K fdA ["self", "places"] []) : FnOk P w K mg base CX0 3 f fd ["self", "x", "y", "z"] (spNote CL) := by
  have GC : FnOk P w K mg base CX0 1 fC fdC ["self", "x", "y", "z"] (spCellAt CL) := ok_cell FC T
  have GA : FnOk P w K mg base CX0 2 fA fdA ["self", "places"] (spAmong CL) := ok_among FA T FC mC bC
  refine F.ok scNote (fun vs H Q E h => ?_) (fun cdv A outer s H vs Q E hr h => ?_)
  · obtain ⟨_, _, _, _, _, _, _, _, _, rfl, _⟩ := h
    rfl
  · have hr1 : Room 1 _ := hr.mono (by decide)
    refine ⟨_, pss_cons (ps_set (i := 4) scNote.nd rfl (Or.inl rfl) (pe_tup (pa_cons (pv 1) (pa_cons (pv 2) (pa_cons (pe_op op_sub (pv 3) pe_int) pa_nil)))))
      (pss_cons (ps_set (i := 5) scNote.nd rfl (Or.inl rfl) (pe_lst
        (pa_cons (pe_tup (pa_cons (pe_op op_sub (pv 1) pe_int) (pa_cons (pv 2) (pa_cons (pv 3) pa_nil))))
        (pa_cons (pe_tup (pa_cons (pe_op op_add (pv 1) pe_int) (pa_cons (pv 2) (pa_cons (pv 3) pa_nil))))
        (pa_cons (pe_tup (pa_cons (pv 1) (pa_cons (pe_op op_sub (pv 2) pe_int) (pa_cons (pv 3) pa_nil))))
        (pa_cons (pe_tup (pa_cons (pv 1) (pa_cons (pe_op op_add (pv 2) pe_int) (pa_cons (pv 3) pa_nil)))) pa_nil))))))
      (pss_cons (ps_set (i := 6) scNote.nd rfl (Or.inl rfl) (pe_tup (pa_cons (pv 1) (pa_cons (pv 2) (pa_cons (pe_op op_add (pv 3) pe_int) pa_nil)))))
      (pss_cons (ps_expr (pe_bm PySem.F.plainAttrs_list PySem.F.slot_list_append PySem.F.type_list_append mt_append (pe_fld (pv 0) rfl)
        (pa_cons (pe_meth (pv 0) T.clL mC GC hr1 bC .nil pass0 (pa_cons (pv 1) (pa_cons (pv 2) (pa_cons (pe_op op_sub (pv 3) pe_int) pa_nil)))) pa_nil)))
      (pss_cons (ps_expr (pe_bm PySem.F.plainAttrs_list PySem.F.slot_list_append PySem.F.type_list_append mt_append (pe_fld (pv 0) rfl)
        (pa_cons (pe_meth (pv 0) T.clL mA GA hr bA .nil pass0 (pa_cons (pv 5) pa_nil)) pa_nil)))
      (pss_one (ps_expr (pe_bm PySem.F.plainAttrs_list PySem.F.slot_list_append PySem.F.type_list_append mt_append (pe_fld (pv 0) rfl)
        (pa_cons (pe_meth (pv 0) T.clL mA GA hr bA .nil pass0 (pa_cons (pe_op op_cat (pe_op op_cat (pe_lst (pa_cons (pv 4) pa_nil)) (pv 5)) (pe_lst (pa_cons (pv 6) pa_nil))) pa_nil)) pa_nil)))))))), ?_⟩
    obtain ⟨p, g, H0, HN, d, x, y, z, n, rfl, hn, hx, hy, hz, n6, L, q⟩ := h
    have small : ∀ m, m ≤ 600 → m < sizeLine := fun n h => small1000 (by omega)
    have d3 : 3 ≤ sizeLine := by decide
    refine ⟨_, rfl, _, rfl, _, rfl, _, _, rfl, rfl, d3, fun t0 h0 => ?_⟩
    generalize g0 : upd H t0 _ = H1
    obtain ⟨s0, e0⟩ := newS h0 g0
    replace e0 : H1 t0 = some (tup3 ((x : Int), (y : Int), (z : Int) - 1)) := e0
    replace L := L.same s0
    refine ⟨_, rfl, _, _, rfl, rfl, _, rfl, _, rfl, d3, fun t1 h1 => ?_⟩
    generalize g1 : upd H1 t1 _ = H2
    obtain ⟨s1, e1⟩ := newS h1 g1
    replace e1 : H2 t1 = some (tup3 ((x : Int) - 1, (y : Int), (z : Int))) := e1
    replace L := L.same s1
    replace e0 := s1 _ _ e0
    refine ⟨_, rfl, _, _, rfl, rfl, _, rfl, _, rfl, d3, fun t2 h2 => ?_⟩
    generalize g2 : upd H2 t2 _ = H3
    obtain ⟨s2, e2⟩ := newS h2 g2
    replace e2 : H3 t2 = some (tup3 ((x : Int) + 1, (y : Int), (z : Int))) := e2
    replace L := L.same s2
    replace e0 := s2 _ _ e0
    replace e1 := s2 _ _ e1
    refine ⟨_, rfl, _, rfl, _, _, rfl, rfl, _, rfl, d3, fun t3 h3 => ?_⟩
    generalize g3 : upd H3 t3 _ = H4
    obtain ⟨s3, e3⟩ := newS h3 g3
    replace e3 : H4 t3 = some (tup3 ((x : Int), (y : Int) - 1, (z : Int))) := e3
    replace L := L.same s3
    replace e0 := s3 _ _ e0
    replace e1 := s3 _ _ e1
    replace e2 := s3 _ _ e2
    refine ⟨_, rfl, _, rfl, _, _, rfl, rfl, _, rfl, d3, fun t4 h4 => ?_⟩
    generalize g4 : upd H4 t4 _ = H5
    obtain ⟨s4, e4⟩ := newS h4 g4
    replace e4 : H5 t4 = some (tup3 ((x : Int), (y : Int) + 1, (z : Int))) := e4
    replace L := L.same s4
    replace e0 := s4 _ _ e0
    replace e1 := s4 _ _ e1
    replace e2 := s4 _ _ e2
    replace e3 := s4 _ _ e3
    refine ⟨(by show 4 ≤ sizeLine; decide), fun tb hb => ?_⟩
    have nb1 : tb ≠ d.be := (ne_of_none L.below hb).symm
    have nb2 : tb ≠ d.bs := (ne_of_none L.beside hb).symm
    have nb3 : tb ≠ d.ab := (ne_of_none L.about hb).symm
    generalize gb : upd H5 tb _ = H6
    obtain ⟨sb, eb⟩ := newS hb gb
    replace L := L.same sb
    replace e0 := sb _ _ e0
    replace e1 := sb _ _ e1
    replace e2 := sb _ _ e2
    replace e3 := sb _ _ e3
    replace e4 := sb _ _ e4
    refine ⟨_, rfl, _, rfl, _, rfl, _, _, rfl, rfl, d3, fun t5 h5 => ?_⟩
    generalize g5 : upd H6 t5 _ = H7
    obtain ⟨s5, e5⟩ := newS h5 g5
    replace e5 : H7 t5 = some (tup3 ((x : Int), (y : Int), (z : Int) + 1)) := e5
    replace L := L.same s5
    replace e0 := s5 _ _ e0
    replace e1 := s5 _ _ e1
    replace e2 := s5 _ _ e2
    replace e3 := s5 _ _ e3
    replace e4 := s5 _ _ e4
    replace eb := s5 _ _ eb
    clear g0 g1 g2 g3 g4 gb g5 h0 h1 h2 h3 h4 hb h5 s0 s1 s2 s3 s4 sb s5
    have P4 : Places H7 tb (besideC x y z) := places4 eb e1 e2 e3 e4
    -- self.below.append(self.cell_at(x, y, z - 1))
    refine ⟨_, rfl, p, CL, d.dx, _, _, rfl, L.ins, T.clL, T.aBelow, L.fBelow, .inl ⟨rfl, _, SqL.of L.below⟩, _, rfl, p, d.dx, _, rfl, L.ins, L.nCell, _, rfl, _, rfl, _, rfl, _, _, rfl, rfl, p, g.sx, g.sy, g.sz, (x : Int), (y : Int), (z : Int) - 1, rfl, L.sidesAt, ?_⟩
    have cb : cellV g.sx g.sy g.sz (x : Int) (y : Int) ((z : Int) - 1) = optV (Vbwsar.below g n) := by
      have := cellV_is (X := g.sx) (Y := g.sy) (Z := g.sz) (c := ((x : Int), (y : Int), (z : Int) - 1))
      rw [cellO_below hx hy hz, ← hn] at this
      exact this
    rw [cb]
    refine ⟨d.be, _, _, rfl, rfl, L.below, (by rw [List.length_map, List.length_range]; exact small _ (by omega)), ?_⟩
    have L1 := L.add1
    have k1 : ∀ c o, H7 c = some o → c ≠ d.be → upd H7 d.be (.lst ((List.range n).map (fun k => optV (Vbwsar.below g k)) ++ [optV (Vbwsar.below g n)])) c = some o := fun c o e ne => by
      rw [upd_ne ne]
      exact e
    generalize upd H7 d.be (.lst ((List.range n).map (fun k => optV (Vbwsar.below g k)) ++ [optV (Vbwsar.below g n)])) = H8 at L1 k1 ⊢
    have tl : ∀ {t : Addr} {c : C3}, H7 t = some (tup3 c) → H8 t = some (tup3 c) := fun e => k1 _ _ e (ne_of e L.below (by intro z; cases z))
    replace e0 := tl e0
    replace e1 := tl e1
    replace e2 := tl e2
    replace e3 := tl e3
    replace e4 := tl e4
    replace e5 := tl e5
    replace eb := k1 _ _ eb nb1
    have P4 : Places H8 tb (besideC x y z) := places4 eb e1 e2 e3 e4
    clear k1 tl L cb
    -- self.beside.append(self.cells_among(beside))
    refine ⟨_, rfl, p, CL, d.dx, _, _, rfl, L1.ins, T.clL, T.aBeside, L1.fBeside, .inl ⟨rfl, _, SqL.of L1.beside⟩, _, rfl, p, d.dx, _, rfl, L1.ins, L1.nAmong, _, rfl, p, tb, g.sx, g.sy, g.sz, besideC x y z, rfl, L1.sidesAt, ⟨_, _, L1.ins, L1.nCell⟩, P4, (by show 4 ≤ 6; decide), fun H9 D9 s9 n9 e9 => ?_⟩
    rw [beside_cells hx hy hz, ← hn] at e9
    replace e0 := s9 _ _ e0
    replace e1 := s9 _ _ e1
    replace e2 := s9 _ _ e2
    replace e3 := s9 _ _ e3
    replace e4 := s9 _ _ e4
    replace e5 := s9 _ _ e5
    replace eb := s9 _ _ eb
    have L2 := L1.same s9
    have q0 : H0 D9 = none := by
      cases c : H0 D9 with
      | none => rfl
      | some o =>
        have : D9 ≠ p := fun e => by
          rw [e, L1.ins] at n9
          cases n9
        rw [L1.keep _ _ c this] at n9
        cases n9
    have qN : HN D9 = none := L1.sub.free n9
    refine ⟨d.bs, _, _, rfl, rfl, L2.beside, (by rw [List.length_map, L2.blen]; exact small _ (by omega)), ?_⟩
    have L3 := L2.add2 e9 q0 qN (fun e => ne_of_none L1.below n9 e.symm) (fun e => ne_of_none L1.beside n9 e.symm) (fun e => ne_of_none L1.about n9 e.symm)
    have k1 : ∀ c o, H9 c = some o → c ≠ d.bs → upd H9 d.bs (.lst (d.bl.map V.ref ++ [V.ref D9])) c = some o := fun c o e ne => by
      rw [upd_ne ne]
      exact e
    generalize upd H9 d.bs (.lst (d.bl.map V.ref ++ [V.ref D9])) = H10 at L3 k1 ⊢
    have tl : ∀ {t : Addr} {c : C3}, H9 t = some (tup3 c) → H10 t = some (tup3 c) := fun e => k1 _ _ e (ne_of e L2.beside (by intro z; cases z))
    replace e0 := tl e0
    replace e1 := tl e1
    replace e2 := tl e2
    replace e3 := tl e3
    replace e4 := tl e4
    replace e5 := tl e5
    replace eb := k1 _ _ eb nb2
    clear k1 tl L1 L2 P4 e9 q0 qN n9 s9
    generalize hd2 : ({ d with bl := d.bl ++ [D9] } : LayD) = d2 at L3
    have nb3' : tb ≠ d2.ab := by
      rw [← hd2]
      exact nb3
    generalize upd HN D9 _ = HN2 at L3
    -- self.about.append(self.cells_among([below] + beside + [above]))
    refine ⟨_, rfl, p, CL, d2.dx, _, _, rfl, L3.ins, T.clL, T.aAbout, L3.fAbout, .inl ⟨rfl, _, SqL.of L3.about⟩, _, rfl, p, d2.dx, _, rfl, L3.ins, L3.nAmong, ?_⟩
    refine ⟨_, rfl, (by show 1 ≤ sizeLine; decide), fun u1 hu1 => ?_⟩
    generalize g1 : upd H10 u1 _ = H11
    obtain ⟨s1, f1⟩ := newS hu1 g1
    refine ⟨_, rfl, u1, tb, _, _, rfl, rfl, f1, s1 _ _ eb, (by show 5 ≤ sizeLine; decide), fun u2 hu2 => ?_⟩
    generalize g2 : upd H11 u2 _ = H12
    obtain ⟨s2, f2⟩ := newS hu2 g2
    refine ⟨_, rfl, (by show 1 ≤ sizeLine; decide), fun u3 hu3 => ?_⟩
    generalize g3 : upd H12 u3 _ = H13
    obtain ⟨s3, f3⟩ := newS hu3 g3
    refine ⟨u2, u3, _, _, rfl, rfl, s3 _ _ f2, f3, (by show 6 ≤ sizeLine; decide), fun u4 hu4 => ?_⟩
    generalize g4 : upd H13 u4 _ = H14
    obtain ⟨s4, f4⟩ := newS hu4 g4
    have s14 : Same H10 H14 := s1.trans (s2.trans (s3.trans s4))
    have L4 := L3.same s14
    have P6 := places6 f4 (s14 _ _ e0) (s14 _ _ e1) (s14 _ _ e2) (s14 _ _ e3) (s14 _ _ e4) (s14 _ _ e5)
    refine ⟨p, u4, g.sx, g.sy, g.sz, _, rfl, L4.sidesAt, ⟨_, _, L4.ins, L4.nCell⟩, P6, (by show 6 ≤ 6; decide), fun H15 D15 s15 n15 e15 => ?_⟩
    rw [about_cells hx hy hz, ← hn] at e15
    have L5 := L4.same s15
    have q0 : H0 D15 = none := by
      cases c : H0 D15 with
      | none => rfl
      | some o =>
        have : D15 ≠ p := fun e => by
          rw [e, L4.ins] at n15
          cases n15
        rw [L4.keep _ _ c this] at n15
        cases n15
    refine ⟨d2.ab, _, _, rfl, rfl, L5.about, (by rw [List.length_map, L5.alen]; exact small _ (by omega)), ?_⟩
    exact q _ _ _ (by rw [← hd2]) (L5.add3 e15 q0 (L4.sub.free n15) (fun e => ne_of_none L4.below n15 e.symm) (fun e => ne_of_none L4.beside n15 e.symm) (fun e => ne_of_none L4.about n15 e.symm))
end
end Gr
set_option Elab.async false
set_option linter.all false
set_option maxRecDepth 100000
set_option maxHeartbeats 4000000
namespace Gr
open PySem PySem.Spec PyProof.Rows L2
open Vbwsar (Ground)
theorem lk_here {k : Str} {v : V} {r : List (Str × V)} : List.lookup k ((k, v) :: r) = some v := by
  have e : (k == k) = true := beq_self_eq_true k
  simp only [List.lookup, e]
theorem lk_past {k g : Str} {v : V} {r : List (Str × V)} (h : (k == g) = false) : List.lookup k ((g, v) :: r) = List.lookup k r := by
  simp only [List.lookup, h]
theorem put_here {f : Str} {v x : V} {r : List (Str × V)} : putF f v ((f, x) :: r) = (f, v) :: r := if_pos rfl
theorem put_past {f g : Str} {v x : V} {r : List (Str × V)} (h : ¬ g = f) : putF f v ((g, x) :: r) = (g, x) :: putF f v r := if_neg h
theorem put_new {f : Str} {v : V} : putF f v [] = [(f, v)] := rfl
/-- a Layout's attributes -/
abbrev lF (sa : Addr) (n : Int) (be bs ab : Addr) : List (Str × V) := [("sides", .ref sa), ("layer_size", .int n), ("below", .ref be), ("beside", .ref bs), ("about", .ref ab)]
section
variable {sa be bs ab : Addr} {n : Int}
theorem lF_sides : (lF sa n be bs ab).lookup ("sides" : Str) = some (.ref sa) := lk_here
theorem lF_size : (lF sa n be bs ab).lookup ("layer_size" : Str) = some (.int n) := (lk_past (by decide +kernel)).trans lk_here
theorem lF_below : (lF sa n be bs ab).lookup ("below" : Str) = some (.ref be) := (lk_past (by decide +kernel)).trans ((lk_past (by decide +kernel)).trans lk_here)
theorem lF_beside : (lF sa n be bs ab).lookup ("beside" : Str) = some (.ref bs) := (lk_past (by decide +kernel)).trans ((lk_past (by decide +kernel)).trans ((lk_past (by decide +kernel)).trans lk_here))
theorem lF_about : (lF sa n be bs ab).lookup ("about" : Str) = some (.ref ab) := (lk_past (by decide +kernel)).trans ((lk_past (by decide +kernel)).trans ((lk_past (by decide +kernel)).trans ((lk_past (by decide +kernel)).trans lk_here)))
theorem lF_no {x : Str} (h1 : (x == ("sides" : Str)) = false) (h2 : (x == ("layer_size" : Str)) = false) (h3 : (x == ("below" : Str)) = false) (h4 : (x == ("beside" : Str)) = false) (h5 : (x == ("about" : Str)) = false) : (lF sa n be bs ab).lookup x = none :=
  (lk_past h1).trans ((lk_past h2).trans ((lk_past h3).trans ((lk_past h4).trans ((lk_past h5).trans rfl))))
theorem lF_cell : (lF sa n be bs ab).lookup ("cell_at" : Str) = none := lF_no (by decide +kernel) (by decide +kernel) (by decide +kernel) (by decide +kernel) (by decide +kernel)
theorem lF_place : (lF sa n be bs ab).lookup ("place_of" : Str) = none := lF_no (by decide +kernel) (by decide +kernel) (by decide +kernel) (by decide +kernel) (by decide +kernel)
theorem lF_among : (lF sa n be bs ab).lookup ("cells_among" : Str) = none := lF_no (by decide +kernel) (by decide +kernel) (by decide +kernel) (by decide +kernel) (by decide +kernel)
theorem lF_note : (lF sa n be bs ab).lookup ("note_neighbours" : Str) = none := lF_no (by decide +kernel) (by decide +kernel) (by decide +kernel) (by decide +kernel) (by decide +kernel)
theorem put2 {a b : Str} {x y : V} (h : ¬ a = b) : putF b y [(a, x)] = [(a, x), (b, y)] := put_past h
theorem put3 {a b c : Str} {x y z : V} (h1 : ¬ a = c) (h2 : ¬ b = c) : putF c z [(a, x), (b, y)] = [(a, x), (b, y), (c, z)] := (put_past h1).trans (congrArg _ (put2 h2))
theorem put4 {a b c d : Str} {x y z u : V} (h1 : ¬ a = d) (h2 : ¬ b = d) (h3 : ¬ c = d) : putF d u [(a, x), (b, y), (c, z)] = [(a, x), (b, y), (c, z), (d, u)] := (put_past h1).trans (congrArg _ (put3 h2 h3))
theorem put5 {a b c d e : Str} {x y z u v : V} (h1 : ¬ a = e) (h2 : ¬ b = e) (h3 : ¬ c = e) (h4 : ¬ d = e) : putF e v [(a, x), (b, y), (c, z), (d, u)] = [(a, x), (b, y), (c, z), (d, u), (e, v)] := (put_past h1).trans (congrArg _ (put4 h2 h3 h4))
theorem lF_put : putF "about" (.ref ab) (putF "beside" (.ref bs) (putF "below" (.ref be) (putF "layer_size" (.int n) (putF "sides" (.ref sa) [])))) = lF sa n be bs ab := by
  rw [put_new, put2 (by decide +kernel), put3 (by decide +kernel) (by decide +kernel), put4 (by decide +kernel) (by decide +kernel) (by decide +kernel), put5 (by decide +kernel) (by decide +kernel) (by decide +kernel) (by decide +kernel)]
end
abbrev sLInit : Stmt := inClass (top 4) 0
abbrev NLInit : List Str := ["self", "sides", "z", "y", "x"]
theorem scLInit : FnScope NLInit ["self", "sides"] (defScope sLInit) := ⟨rfl, rfl, rfl, by decide +kernel, rfl, by decide +kernel, by decide +kernel⟩
/-- what a Layout's making leaves: it stands apart from all that was but its sides -/
def newPart (H H' : Hp) (p sa : Addr) : Hp := fun c => if c = p ∨ c = sa ∨ H c = none then H' c else none
def spLInit (CL : Addr) : Sp := fun vs H Q _ => ∃ (p dx sa : Addr) (g : Ground), vs = [.ref p, .ref sa] ∧ H p = some (.ins CL dx []) ∧ H sa = some (.tup [.int (g.sx : Int), .int (g.sy : Int), .int (g.sz : Int)]) ∧ Vbwsar.size g ≤ 600 ∧ g.sx ≤ 600 ∧ g.sy ≤ 600 ∧ g.sz ≤ 600 ∧
  ∀ H', (∀ c o, H c = some o → c ≠ p → H' c = some o) → Lay CL (newPart H H' p sa) p g → Q .non H'
theorem LB.done {CL : Addr} {H0 H HN : Hp} {p : Addr} {g : Ground} {d : LayD} (h : LB CL H0 H p g (Vbwsar.size g) (Vbwsar.size g) (Vbwsar.size g) d HN) : Lay CL (newPart H0 H p d.sa) p g := by
  have n : ∀ c, H0 c = none → newPart H0 H p d.sa c = H c := fun c e => if_pos (.inr (.inr e))
  have m : ∀ {c l}, IL HN c l → IL (newPart H0 H p d.sa) c l := fun {c l} e => by
    unfold IL
    rw [n c (h.fresh _ _ e)]
    exact h.sub _ _ e
  refine ⟨d, ?_, h.fSides, h.fSize, h.fBelow, h.fBeside, h.fAbout, h.nCell, h.nPlace, ?_, ?_, ?_, ?_, h.blen, h.alen, fun k hk => m (h.bat k hk), fun k hk => m (h.aat k hk)⟩
  · exact (if_pos (.inl rfl)).trans h.ins
  · exact (if_pos (.inr (.inl rfl))).trans h.sides
  · exact (n _ h.be0.1).trans h.below
  · exact (n _ h.bs0.1).trans h.beside
  · exact (n _ h.ab0.1).trans h.about
theorem key_row {g : Ground} {y z : Nat} : Vbwsar.keyOf g ⟨g.sx, y, z⟩ = Vbwsar.keyOf g ⟨0, y + 1, z⟩ := by
  show (z * g.sy + y) * g.sx + g.sx = (z * g.sy + (y + 1)) * g.sx + 0
  rw [← Nat.add_assoc, Nat.add_mul (z * g.sy + y) 1, Nat.one_mul]
  rfl
theorem key_lay {g : Ground} {z : Nat} : Vbwsar.keyOf g ⟨0, g.sy, z⟩ = Vbwsar.keyOf g ⟨0, 0, z + 1⟩ := by
  show (z * g.sy + g.sy) * g.sx + 0 = ((z + 1) * g.sy + 0) * g.sx + 0
  rw [Nat.add_mul z 1, Nat.one_mul]
  rfl
theorem key_end {g : Ground} : Vbwsar.keyOf g ⟨0, 0, g.sz⟩ = Vbwsar.size g := by
  show (g.sz * g.sy + 0) * g.sx + 0 = g.sx * (g.sy * g.sz)
  rw [Nat.add_zero, Nat.add_zero, Nat.mul_comm, Nat.mul_comm g.sz]
theorem updS {H H' : Hp} {p : Addr} {o : HO} (e : upd H p o = H') : H' p = some o ∧ ∀ c u, H c = some u → c ≠ p → H' c = some u := by
  subst e
  refine ⟨upd_same, fun c u h n => ?_⟩
  rw [upd_ne n]
  exact h
section
variable {P : Program} {w : World} {K : PySem.W.Frag} {mg : Str → Option Value} {base : Heap} {CL CG : Addr}
theorem ok_linit {f fC fA fN : Addr} {fd fdC fdA fdN : FuncData} (F : Fun K "__init__" "Layout.__init__" sLInit f fd) (T : Txt K mg CL CG)
    (FC : Fun K "cell_at" "Layout.cell_at" sCell fC fdC) (mC : Meth K CL "cell_at" fC) (bC : Binds K fdC ["self", "x", "y", "z"] [])
    (FA : Fun K "cells_among" "Layout.cells_among" sAmong fA fdA) (mA : Meth K CL "cells_among" fA) (bA : Binds K fdA ["self", "places"] [])
    (FN : Fun K "note_neighbours" "Layout.note_neighbours" sNote fN fdN) (mN : Meth K CL "note_neighbours" fN) (bN : Binds K fdN ["self", "x", "y", "z"] []) : FnOk P w K mg base CX0 4 f fd ["self", "sides"] (spLInit CL) := by
  have GN : FnOk P w K mg base CX0 3 fN fdN ["self", "x", "y", "z"] (spNote CL) := ok_note FN T FC mC bC FA mA bA
  refine F.ok scLInit (fun vs H Q E h => ?_) (fun cdv A outer s H vs Q E hr h => ?_)
  · obtain ⟨_, _, _, _, rfl, _⟩ := h
    rfl
  · refine ⟨_, pss_cons (ps_fld (pv 0) (pv 1) rfl)
      (pss_cons (ps_fld (pv 0) (pe_op op_mul (pe_ix ix_tup (pv 1) pe_int (fun _ _ => rfl)) (pe_ix ix_tup (pv 1) pe_int (fun _ _ => rfl))) rfl)
      (pss_cons (ps_fld (pv 0) (pe_lst pa_nil) rfl)
      (pss_cons (ps_fld (pv 0) (pe_lst pa_nil) rfl)
      (pss_cons (ps_fld (pv 0) (pe_lst pa_nil) rfl)
      (pss_one (ps_for PassesOwn.never rfl (pi_range1 (by rfl) T.nrange (pa_cons (pe_ix ix_tup (pv 1) pe_int (fun _ _ => rfl)) pa_nil)) (pg_name (i := 2) scLInit.nd rfl (Or.inl rfl))
        (pss_one (ps_for PassesOwn.never rfl (pi_range1 (by rfl) T.nrange (pa_cons (pe_ix ix_tup (pv 1) pe_int (fun _ _ => rfl)) pa_nil)) (pg_name (i := 3) scLInit.nd rfl (Or.inl rfl))
          (pss_one (ps_for PassesOwn.never rfl (pi_range1 (by rfl) T.nrange (pa_cons (pe_ix ix_tup (pv 1) pe_int (fun _ _ => rfl)) pa_nil)) (pg_name (i := 4) scLInit.nd rfl (Or.inl rfl))
            (pss_one (ps_expr (pe_meth (pv 0) T.clL mN GN hr bN .nil pass0 (pa_cons (pv 4) (pa_cons (pv 3) (pa_cons (pv 2) pa_nil)))))))))))))))), ?_⟩
    obtain ⟨p, dx, sa, g, rfl, hp, hsa, sz, sx6, sy6, sz6, q⟩ := h
    have spn : sa ≠ p := ne_of hsa hp (by intro z; cases z)
    refine ⟨_, rfl, _, rfl, p, CL, dx, [], rfl, hp, T.clL, T.aSides, (by show 0 < 1000; decide), ?_⟩
    generalize g1 : upd H p _ = H1
    obtain ⟨e1, k1⟩ := updS g1
    have a1 := k1 _ _ hsa spn
    refine ⟨_, rfl, sa, _, 0, _, rfl, rfl, SqT.of a1, rfl, _, rfl, sa, _, 1, _, rfl, rfl, SqT.of a1, rfl, _, _, rfl, rfl, .inl ⟨by omega, by omega⟩, _, rfl, p, CL, dx, _, rfl, e1, T.clL, T.aSize, (by show 1 < 1000; decide), ?_⟩
    generalize g2 : upd H1 p _ = H2
    obtain ⟨e2, k2⟩ := updS g2
    have m2 : ∀ c o, H c = some o → c ≠ p → H2 c = some o := fun c o e n => k2 _ _ (k1 _ _ e n) n
    refine ⟨(by show 0 ≤ sizeLine; decide), fun be hb => ?_⟩
    generalize g3 : upd H2 be _ = H3
    obtain ⟨s3, b3⟩ := newS hb g3
    have bp : be ≠ p := (ne_of_none e2 hb).symm
    refine ⟨_, rfl, p, CL, dx, _, rfl, s3 _ _ e2, T.clL, T.aBelow, (by show 2 < 1000; decide), ?_⟩
    generalize g4 : upd H3 p _ = H4
    obtain ⟨e4, k4⟩ := updS g4
    have m4 : ∀ c o, H c = some o → c ≠ p → H4 c = some o := fun c o e n => k4 _ _ (s3 _ _ (m2 c o e n)) n
    have b4 := k4 _ _ b3 bp
    refine ⟨(by show 0 ≤ sizeLine; decide), fun bs hs => ?_⟩
    generalize g5 : upd H4 bs _ = H5
    obtain ⟨s5, c5⟩ := newS hs g5
    have sp : bs ≠ p := (ne_of_none e4 hs).symm
    have bsn : be ≠ bs := ne_of_none b4 hs
    refine ⟨_, rfl, p, CL, dx, _, rfl, s5 _ _ e4, T.clL, T.aBeside, (by show 3 < 1000; decide), ?_⟩
    generalize g6 : upd H5 p _ = H6
    obtain ⟨e6, k6⟩ := updS g6
    have m6 : ∀ c o, H c = some o → c ≠ p → H6 c = some o := fun c o e n => k6 _ _ (s5 _ _ (m4 c o e n)) n
    have b6 := k6 _ _ (s5 _ _ b4) bp
    have c6 := k6 _ _ c5 sp
    refine ⟨(by show 0 ≤ sizeLine; decide), fun ab ha => ?_⟩
    generalize g7 : upd H6 ab _ = H7
    obtain ⟨s7, d7⟩ := newS ha g7
    have ap : ab ≠ p := (ne_of_none e6 ha).symm
    have ban : be ≠ ab := ne_of_none b6 ha
    have san : bs ≠ ab := ne_of_none c6 ha
    refine ⟨_, rfl, p, CL, dx, _, rfl, s7 _ _ e6, T.clL, T.aAbout, (by show 4 < 1000; decide), ?_⟩
    rw [lF_put]
    generalize g8 : upd H7 p _ = H8
    obtain ⟨e8, k8⟩ := updS g8
    have m8 : ∀ c o, H c = some o → c ≠ p → H8 c = some o := fun c o e n => k8 _ _ (s7 _ _ (m6 c o e n)) n
    have free : ∀ c {Hx : Hp}, (∀ c o, H c = some o → c ≠ p → Hx c = some o) → c ≠ p → Hx c = none → H c = none := fun c Hx m n e => by
      cases z : H c with
      | none => rfl
      | some o =>
        rw [m c o z n] at e
        cases e
    have L0 : LB CL H H8 p g 0 0 0 ⟨dx, lF sa ((g.sx : Int) * (g.sy : Int)) be bs ab, be, bs, ab, sa, [], []⟩ (fun _ => none) :=
      ⟨e8, lF_sides, by rw [lF_size, Int.natCast_mul], lF_below, lF_beside, lF_about, lF_cell, lF_place, lF_among, lF_note, m8 _ _ hsa spn, (by show H sa ≠ none; rw [hsa]; simp), m8, (fun c o e => by cases e), (fun c o e => by cases e),
        ⟨free be m2 bp hb, rfl⟩, ⟨free bs m4 sp hs, rfl⟩, ⟨free ab m6 ap ha, rfl⟩, rfl, bsn, ban, san, k8 _ _ (s7 _ _ b6) bp, k8 _ _ (s7 _ _ c6) sp, k8 _ _ d7 ap, rfl, rfl, fun k hk => absurd hk (Nat.not_lt_zero k), fun k hk => absurd hk (Nat.not_lt_zero k), sx6, sy6, sz6⟩
    have ex0 : ∃ d HN, d.sa = sa ∧ LB CL H H8 p g (Vbwsar.keyOf g ⟨0, 0, 0⟩) (Vbwsar.keyOf g ⟨0, 0, 0⟩) (Vbwsar.keyOf g ⟨0, 0, 0⟩) d HN := by
      have z : Vbwsar.keyOf g ⟨0, 0, 0⟩ = 0 := by
        show (0 * g.sy + 0) * g.sx + 0 = 0
        rw [Nat.zero_mul, Nat.zero_add, Nat.zero_mul]
      rw [z]
      exact ⟨_, _, rfl, L0⟩
    have a8 := m8 _ _ hsa spn
    clear g1 g2 g3 g4 g5 g6 g7 g8 k1 k2 k4 k6 k8 L0 m2 m4 m6 m8 free
    have tup : ∀ {H' : Hp} {n1 n2 n3 : Nat} {d : LayD} {HN : Hp}, d.sa = sa → LB CL H H' p g n1 n2 n3 d HN → H' sa = some (.tup [.int (g.sx : Int), .int (g.sy : Int), .int (g.sz : Int)]) := fun e l => by
      rw [← e]
      exact l.sides
    refine ⟨_, rfl, sa, _, 2, _, rfl, rfl, SqT.of a8, rfl, _, rfl, by omega, by omega, ?_⟩
    refine for_range (lo := 0) (n := g.sz) (fun i σ H' => ∃ c1 c2 c3, σ = [some (.ref p), some (.ref sa), c1, c2, c3] ∧ ∃ d HN, d.sa = sa ∧ LB CL H H' p g (Vbwsar.keyOf g ⟨0, 0, i⟩) (Vbwsar.keyOf g ⟨0, 0, i⟩) (Vbwsar.keyOf g ⟨0, 0, i⟩) d HN)
      ⟨_, _, _, rfl, ex0⟩ ?_ ?_
    · rintro z σ H9 hz ⟨c1, c2, c3, rfl, d9, N9, ds9, L9⟩
      rw [Int.zero_add]
      refine ⟨_, rfl, sa, _, 1, _, rfl, rfl, SqT.of (tup ds9 L9), rfl, _, rfl, by omega, by omega, ?_⟩
      refine for_range (lo := 0) (n := g.sy) (fun i σ H' => ∃ c2 c3, σ = [some (.ref p), some (.ref sa), some (.int (z : Int)), c2, c3] ∧ ∃ d HN, d.sa = sa ∧ LB CL H H' p g (Vbwsar.keyOf g ⟨0, i, z⟩) (Vbwsar.keyOf g ⟨0, i, z⟩) (Vbwsar.keyOf g ⟨0, i, z⟩) d HN)
        ⟨_, _, rfl, d9, N9, ds9, L9⟩ ?_ ?_
      · rintro y σ H10 hy ⟨c2, c3, rfl, d10, N10, ds10, L10⟩
        rw [Int.zero_add]
        refine ⟨_, rfl, sa, _, 0, _, rfl, rfl, SqT.of (tup ds10 L10), rfl, _, rfl, by omega, by omega, ?_⟩
        refine for_range (lo := 0) (n := g.sx) (fun i σ H' => ∃ c3, σ = [some (.ref p), some (.ref sa), some (.int (z : Int)), some (.int (y : Int)), c3] ∧ ∃ d HN, d.sa = sa ∧ LB CL H H' p g (Vbwsar.keyOf g ⟨i, y, z⟩) (Vbwsar.keyOf g ⟨i, y, z⟩) (Vbwsar.keyOf g ⟨i, y, z⟩) d HN)
          ⟨_, rfl, d10, N10, ds10, L10⟩ ?_ ?_
        · rintro x σ H11 hx ⟨c3, rfl, d11, N11, ds11, L11⟩
          rw [Int.zero_add]
          have kl : Vbwsar.keyOf g ⟨x, y, z⟩ < Vbwsar.size g := GT.key_lt hx hy hz
          refine ⟨_, rfl, p, d11.dx, _, rfl, L11.ins, L11.nNote, _, rfl, _, rfl, _, rfl, p, g, H, N11, d11, x, y, z, _, rfl, rfl, hx, hy, hz, by omega, L11, fun H12 d12 N12 ds12 L12 => ?_⟩
          exact ⟨_, rfl, d12, N12, ds12.trans ds11, L12⟩
        · rintro σ H11 ⟨c3, rfl, d11, N11, ds11, L11⟩
          rw [key_row] at L11
          exact ⟨_, _, rfl, d11, N11, ds11, L11⟩
      · rintro σ H10 ⟨c2, c3, rfl, d10, N10, ds10, L10⟩
        rw [key_lay] at L10
        exact ⟨_, _, _, rfl, d10, N10, ds10, L10⟩
    · rintro σ H9 ⟨c1, c2, c3, rfl, d9, N9, ds9, L9⟩
      rw [key_end] at L9
      have D := L9.done
      rw [ds9] at D
      exact q H9 L9.keep D
end
end Gr
set_option Elab.async false
set_option linter.all false
set_option maxRecDepth 100000
set_option maxHeartbeats 4000000
namespace Gr
open PySem PySem.Spec PyProof.Rows L2
open Vbwsar (Ground)
/-! ## held_wood: the mathematics -/
/-- behind s steps: hs all that is held, ns what was reached last -/
structure HInv (g : Ground) (m : List Nat) (s : Nat) (hs ns : List Nat) : Prop where
  nd : hs.Nodup
  is : ∀ x, x ∈ hs ↔ x < Vbwsar.size g ∧ hb g m s x = true
  sub : ∀ x ∈ ns, x ∈ hs
  old : ∀ x ∈ hs, x ∉ ns → ∀ y ∈ Vbwsar.around g x, m.getD y 0 = 5 → y ∈ hs
/-- within a step: r is what was reached in it, by the first i of ns and the first j about the next -/
structure RInv (g : Ground) (m : List Nat) (hs ns : List Nat) (i : Nat) (about : List Nat) (j : Nat) (r : List Nat) : Prop where
  nd : (hs ++ r).Nodup
  lt : ∀ x ∈ r, x < Vbwsar.size g ∧ m.getD x 0 = 5 ∧ ∃ c ∈ ns, x ∈ Vbwsar.around g c
  all : ∀ c ∈ ns.take i, ∀ y ∈ Vbwsar.around g c, m.getD y 0 = 5 → y ∈ hs ++ r
  now : ∀ y ∈ about.take j, m.getD y 0 = 5 → y ∈ hs ++ r
theorem HInv.len {g : Ground} {m : List Nat} {s : Nat} {hs ns : List Nat} (h : HInv g m s hs ns) : hs.length ≤ Vbwsar.size g := nodup_len _ _ h.nd fun x q => ((h.is x).mp q).1
theorem RInv.len {g : Ground} {m : List Nat} {s : Nat} {hs ns ab r : List Nat} {i j : Nat} (h : HInv g m s hs ns) (q : RInv g m hs ns i ab j r) : (hs ++ r).length ≤ Vbwsar.size g :=
  nodup_len _ _ q.nd fun x z => by
    rcases List.mem_append.mp z with z | z
    · exact ((h.is x).mp z).1
    · exact (q.lt x z).1
theorem RInv.start {g : Ground} {m : List Nat} {s : Nat} {hs ns : List Nat} (h : HInv g m s hs ns) : RInv g m hs ns 0 [] 0 [] :=
  ⟨by rw [List.append_nil]; exact h.nd, fun x q => absurd q (by simp), fun c q => absurd q (by simp), fun c q => absurd q (by simp)⟩
theorem RInv.enter {g : Ground} {m : List Nat} {hs ns r : List Nat} {i : Nat} {ab : List Nat} (h : RInv g m hs ns i [] 0 r) : RInv g m hs ns i ab 0 r :=
  ⟨h.nd, h.lt, h.all, fun c q => absurd q (by simp)⟩
theorem RInv.pass {g : Ground} {m : List Nat} {hs ns r ab : List Nat} {i j y : Nat} (h : RInv g m hs ns i ab j r) (e : ab[j]? = some y) (q : m.getD y 0 ≠ 5 ∨ y ∈ hs ++ r) : RInv g m hs ns i ab (j + 1) r :=
  ⟨h.nd, h.lt, h.all, fun z hz w => by
    rw [take_more e] at hz
    rcases List.mem_append.mp hz with hz | hz
    · exact h.now z hz w
    · have : z = y := by simpa using hz
      subst this
      rcases q with q | q
      · exact absurd w q
      · exact q⟩
theorem RInv.take {g : Ground} {m : List Nat} {hs ns r : List Nat} {i j y c : Nat} (h : RInv g m hs ns i (Vbwsar.around g c) j r) (hc : c ∈ ns) (hl : c < Vbwsar.size g) (e : (Vbwsar.around g c)[j]? = some y) (q : m.getD y 0 = 5) (n : y ∉ hs ++ r) :
    RInv g m hs ns i (Vbwsar.around g c) (j + 1) (r ++ [y]) := by
  have my : y ∈ Vbwsar.around g c := List.mem_of_getElem? e
  refine ⟨?_, fun x hx => ?_, fun c' hc' z hz w => ?_, fun z hz w => ?_⟩
  · rw [← List.append_assoc, List.nodup_append]
    exact ⟨h.nd, by simp, fun a ha b hb e3 => by
      have : b = y := by simpa using hb
      subst this
      subst e3
      exact n ha⟩
  · rcases List.mem_append.mp hx with hx | hx
    · exact h.lt x hx
    · have : x = y := by simpa using hx
      subst this
      exact ⟨GT.around_lt hl my, q, c, hc, my⟩
  · rw [← List.append_assoc]
    exact List.mem_append.mpr (.inl (h.all c' hc' z hz w))
  · rw [← List.append_assoc]
    rw [take_more e] at hz
    rcases List.mem_append.mp hz with hz | hz
    · exact List.mem_append.mpr (.inl (h.now z hz w))
    · have : z = y := by simpa using hz
      subst this
      exact List.mem_append.mpr (.inr (by simp))
theorem RInv.leave {g : Ground} {m : List Nat} {hs ns r : List Nat} {i c : Nat} (h : RInv g m hs ns i (Vbwsar.around g c) (Vbwsar.around g c).length r) (e : ns[i]? = some c) : RInv g m hs ns (i + 1) [] 0 r :=
  ⟨h.nd, h.lt, fun c' hc' y hy w => by
    rw [take_more e] at hc'
    rcases List.mem_append.mp hc' with hc' | hc'
    · exact h.all c' hc' y hy w
    · have : c' = c := by simpa using hc'
      subst this
      exact h.now y (by rw [List.take_length]; exact hy) w, fun c q => absurd q (by simp)⟩
theorem RInv.done {g : Ground} {m : List Nat} {s : Nat} {hs ns r : List Nat} (h : HInv g m s hs ns) (q : RInv g m hs ns ns.length [] 0 r) : HInv g m (s + 1) (hs ++ r) r := by
  have all : ∀ c ∈ ns, ∀ y ∈ Vbwsar.around g c, m.getD y 0 = 5 → y ∈ hs ++ r := fun c hc => q.all c (by rw [List.take_length]; exact hc)
  refine ⟨q.nd, fun x => ⟨fun hx => ?_, fun hx => ?_⟩, fun x hx => List.mem_append.mpr (.inr hx), fun x hx nx y hy w => ?_⟩
  · rcases List.mem_append.mp hx with hx | hx
    · have a := (h.is x).mp hx
      refine ⟨a.1, ?_⟩
      show (hb g m s x || _) = true
      rw [a.2]
      rfl
    · obtain ⟨h1, h2, c, hc, hx'⟩ := q.lt x hx
      refine ⟨h1, ?_⟩
      have a := (h.is c).mp (h.sub c hc)
      show (hb g m s x || (m.getD x 0 == 5 && (Vbwsar.around g x).any (hb g m s))) = true
      rw [Bool.or_eq_true, Bool.and_eq_true, beq_iff_eq, List.any_eq_true]
      exact .inr ⟨h2, c, GT.around_symm a.1 hx', a.2⟩
  · obtain ⟨h1, h2⟩ := hx
    have h2 : (hb g m s x || (m.getD x 0 == 5 && (Vbwsar.around g x).any (hb g m s))) = true := h2
    rw [Bool.or_eq_true, Bool.and_eq_true, beq_iff_eq, List.any_eq_true] at h2
    rcases h2 with h2 | ⟨h2, c, hc, h3⟩
    · exact List.mem_append.mpr (.inl ((h.is x).mpr ⟨h1, h2⟩))
    · have cl : c < Vbwsar.size g := GT.around_lt h1 hc
      have ch : c ∈ hs := (h.is c).mpr ⟨cl, h3⟩
      have xc : x ∈ Vbwsar.around g c := GT.around_symm h1 hc
      by_cases cn : c ∈ ns
      · exact all c cn x xc h2
      · exact List.mem_append.mpr (.inl (h.old c ch cn x xc h2))
  · rcases List.mem_append.mp hx with hx | hx
    · by_cases cn : x ∈ ns
      · exact all x cn y hy w
      · exact List.mem_append.mpr (.inl (h.old x hx cn y hy w))
    · exact absurd hx nx
theorem HInv.zero {g : Ground} {m : List Nat} {ns : List Nat} (h : ns = ((List.range (Vbwsar.size g)).filter fun k => m.getD k 0 == 5).filter fun k => footM g m k) : HInv g m 0 ns ns := by
  subst h
  refine ⟨(List.nodup_range.filter _).filter _, fun x => ?_, fun x q => q, fun x q n => absurd q n⟩
  rw [List.mem_filter, List.mem_filter, List.mem_range]
  show _ ↔ x < _ ∧ (m.getD x 0 == 5 && footM g m x) = true
  rw [Bool.and_eq_true, and_assoc]

theorem int_eq5 (n : Nat) : decide (V.int (n : Int) = V.int 5) = (n == 5) := int_eqN n 5
theorem filter_vn (l : List Nat) (p : Nat → Bool) : ((vn l).filter fun x => p (natV x)).map (fun x => x) = vn (l.filter p) := by
  rw [List.map_id', List.filter_map]
  rfl
theorem mem_vn {l : List Nat} {x : V} (h : x ∈ vn l) : ∃ k ∈ l, x = V.int (k : Int) := by
  obtain ⟨k, hk, e⟩ := List.mem_map.mp h
  exact ⟨k, hk, e.symm⟩
theorem at_vn {l : List Nat} {i : Nat} {x : V} (h : (vn l)[i]? = some x) : ∃ k, l[i]? = some k ∧ x = V.int (k : Int) := by
  rw [List.getElem?_map] at h
  cases e : l[i]? with
  | none =>
    rw [e] at h
    cases h
  | some k =>
    rw [e] at h
    exact ⟨k, rfl, (Option.some.inj h).symm⟩
theorem around_len {g : Ground} {k : Nat} : (Vbwsar.around g k).length ≤ 6 := by
  unfold Vbwsar.around
  rw [List.length_append, List.length_append]
  have h1 := beside_len (g := g) (k := k)
  have h : ∀ o : Option Nat, o.toList.length ≤ 1 := fun o => by cases o <;> simp
  have h2 := h (Vbwsar.below g k)
  have h3 := h (Vbwsar.above g k)
  omega
/-! ## held_wood: the def -/
abbrev sHeld : Stmt := top 40
abbrev NHeld : List Str := ["layout", "materials", "cell", "wood", "newest", "held", "step", "reached", "near"]
theorem scHeld : FnScope NHeld ["layout", "materials"] (defScope sHeld) := ⟨rfl, rfl, rfl, by decide +kernel, rfl, by decide +kernel, by decide +kernel⟩

def spHeld (CL : Addr) : Sp := fun vs H Q _ => ∃ (l a : Addr) (g : Ground) (m : List Nat), vs = [.ref l, .ref a] ∧ Lay CL H l g ∧ IL H a m ∧ m.length = Vbwsar.size g ∧ Vbwsar.size g ≤ 600 ∧
  ∀ (H' : Hp) (p : Addr) (hs : List Nat), Same H H' → H p = none → H' p = some (.dK (dkv hs)) → hs.Nodup → (∀ x, x ∈ hs ↔ x < Vbwsar.size g ∧ hb g m 4 x = true) → Q (.ref p) H'
section
variable {P : Program} {w : World} {K : PySem.W.Frag} {mg : Str → Option Value} {base : Heap} {CL CG : Addr}
theorem ok_held {f fF : Addr} {fd fdF : FuncData} (F : Fun K "held_wood" "held_wood" sHeld f fd) (T : Txt K mg CL CG)
    (FF : Fun K "has_foot" "has_foot" sFoot fF fdF) (gF : mg "has_foot" = some (.ref fF)) (bF : Binds K fdF ["layout", "materials", "cell"] []) : FnOk P w K mg base CX0 2 f fd ["layout", "materials"] (spHeld CL) := by
  have GF : FnOk P w K mg base CX0 1 fF fdF ["layout", "materials", "cell"] (spFoot CL) := ok_foot FF T
  refine F.ok scHeld (fun vs H Q E h => ?_) (fun cdv A outer s H vs Q E hr h => ?_)
  · obtain ⟨_, _, _, _, rfl, _⟩ := h
    rfl
  · have hu := hu_of hr
    refine ⟨_, pss_cons (ps_setLc (i := 3) (own := [("cell", 2)]) (g := gName 2) rfl scHeld.nd rfl rfl (sw_true rfl rfl rfl (by decide +kernel))
        (pi_range1 (by rfl) T.nrange (pa_cons (pe_callB call_len_seq (by rfl) T.nlen PySem.boot_len (pa_cons (pv 1) pa_nil)) pa_nil)) (blkOk_by (N := NHeld) (sc := defScope sHeld) (by decide +kernel))
        (fun _ _ _ _ _ => pg_name (i := 2) scHeld.nd rfl (Or.inl rfl))
        (fun _ _ _ _ _ => pts_one (pt_cmpR op_eq (pe_ix (r := rIxL K) ix_list (pv 1) (pv 2) (fun _ _ => rfl)) (pe_gi T.gWOOD) (nomark _)))
        (fun _ _ _ _ _ => pv 2))
      (pss_cons (ps_setLc (i := 4) (own := [("cell", 2)]) (g := gName 2) rfl scHeld.nd rfl rfl (sw_true rfl rfl rfl (by decide +kernel))
        (pi_list (pv 3)) (blkOk_by (N := NHeld) (sc := defScope sHeld) (by decide +kernel))
        (fun _ _ _ _ _ => pg_name (i := 2) scHeld.nd rfl (Or.inl rfl))
        (fun _ _ _ _ _ => pts_one (pt_val (pe_call GF hr rfl gF FF.kp bF .nil pass0 (pa_cons (pv 0) (pa_cons (pv 1) (pa_cons (pv 2) pa_nil))))))
        (fun _ _ _ _ _ => pv 2))
      (pss_cons (ps_set (i := 5) scHeld.nd rfl (Or.inl rfl) pe_dnewK)
      (pss_cons (ps_for PassesOwn.never rfl (pi_list (pv 4)) (pg_name (i := 2) scHeld.nd rfl (Or.inl rfl))
        (pss_one (ps_dput hu (pv 5) (pv 2) pe_bl rfl)))
      (pss_cons (ps_for PassesOwn.never rfl (pi_range1 rfl T.nrange (pa_cons (pe_gi T.gSTEPS) pa_nil)) (pg_name (i := 6) scHeld.nd rfl (Or.inl rfl))
        (pss_cons (ps_set (i := 7) scHeld.nd rfl (Or.inl rfl) (pe_lst pa_nil))
        (pss_cons (ps_for PassesOwn.never rfl (pi_list (pv 4)) (pg_name (i := 2) scHeld.nd rfl (Or.inl rfl))
          (pss_one (ps_for PassesOwn.never rfl (pi_list (pe_ix ix_list (pe_fld (pv 0) rfl) (pv 2) (fun _ _ => rfl))) (pg_name (i := 8) scHeld.nd rfl (Or.inl rfl))
            (pss_one (ps_if (PW.pt (pw_and (pt_cmpR op_eq (pe_ix ix_list (pv 1) (pv 8) (fun _ _ => rfl)) (pe_gi T.gWOOD) (nomark _)) (pw_and1 (pt_cmp (pc_dnotin hu (pv 8) (pv 5))))))
              (pss_cons (ps_dput hu (pv 5) (pv 8) pe_bl rfl)
              (pss_one (ps_expr (pe_bm PySem.F.plainAttrs_list PySem.F.slot_list_append PySem.F.type_list_append mt_append (pv 7) (pa_cons (pv 8) pa_nil)))))
              pss_nil)))))
        (pss_one (ps_set (i := 4) scHeld.nd rfl (Or.inl rfl) (pv 7))))))
      (pss_one (ps_ret (pv 5))))))), ?_⟩
    obtain ⟨l, a, g, m, rfl, L, hm, hlen, hsz, q⟩ := h
    have hml : (vn m).length = Vbwsar.size g := by rw [List.length_map, hlen]
    have small : ∀ n, n ≤ 600 → n < sizeLine := fun n h => small1000 (by omega)
    -- wood
    refine ⟨_, rfl, a, _, rfl, .inl (SqL.of hm), _, rfl, (by rw [hml]; omega), (by rw [hml]; omega), fun D1 hD1 => ?_⟩
    refine lc_pureR (n := (vn m).length) (fun k => V.int (k : Int)) (fun k => m.getD k 0 == 5) hD1 (small _ (by omega)) (fun _ => rfl) (fun k hk H2 s2 Q2 h2 => ?_) (fun k hk _ H2 s2 Q2 h2 => ?_) (fun H1 s1 e1 => ?_)
    · refine ⟨_, rfl, _, rfl, a, _, _, _, rfl, rfl, SqL.of (s2 _ _ hm), vn_atI (by omega), rfl, _, rfl, ?_⟩
      rw [int_eq5]
      exact h2 H2 (Same.refl _)
    · exact ⟨_, rfl, h2 H2 (Same.refl _)⟩
    rw [hml] at e1
    have e1 : IL H1 D1 ((List.range (Vbwsar.size g)).filter fun k => m.getD k 0 == 5) := e1
    -- newest
    refine ⟨_, rfl, D1, rfl, ⟨_, SqL.of e1⟩, fun D2 hD2 => ?_⟩
    refine lc_pure (fun x => x) (fun x => footM g m (natV x)) hD2 ?_ (SqL.of e1) (fun _ => rfl) (fun x hx H2 s2 Q2 h2 => ?_) (fun x hx _ H2 s2 Q2 h2 => ?_) (fun H2 s2 e2 => ?_)
    · rw [List.length_map]
      exact small _ (Nat.le_trans (List.length_filter_le _ _) (by rw [List.length_range]; exact hsz))
    · obtain ⟨k, hk, rfl⟩ := mem_vn hx
      have hk1 := List.mem_range.mp (List.mem_filter.mp hk).1
      exact ⟨_, rfl, _, rfl, _, rfl, l, a, g, m, k, rfl, L.same (s1.trans s2), s2 _ _ (s1 _ _ hm), hlen, hk1, fun H3 s3 => ⟨_, rfl, h2 H3 s3⟩⟩
    · exact ⟨_, rfl, h2 H2 (Same.refl _)⟩
    rw [filter_vn] at e2
    have s3 := s1.trans s2
    generalize hns : (((List.range (Vbwsar.size g)).filter fun k => m.getD k 0 == 5).filter fun k => footM g m k) = ns at e2
    have hz := HInv.zero hns.symm
    have e2 : IL H2 D2 ns := e2
    -- held = {}
    intro p hp
    refine ⟨_, rfl, D2, rfl, ⟨_, SqL.of (same_new hp _ _ e2)⟩, for_list (K := K) (a := D2) (xs := vn ns) (fun i σ H' => ∃ c, σ = [some (.ref l), some (.ref a), c, some (.ref D1), some (.ref D2), some (.ref p), none, none, none] ∧ Same H2 H' ∧ H' p = some (.dK (dkv (ns.take i))))
      ⟨_, rfl, same_new hp, upd_same⟩ (fun i σ H' _ ⟨_, _, s4, _⟩ => SqL.of (s4 _ _ e2)) ?_ ?_⟩
    · rintro i x σ H' hi ⟨c, rfl, s4, e4⟩
      obtain ⟨k, hk, rfl⟩ := at_vn hi
      have nk : k ∉ ns.take i := fun q => by
        have nd := hz.nd
        rw [← List.take_append_drop i ns, List.nodup_append] at nd
        exact nd.2.2 k q k (by
          rw [List.mem_iff_getElem?]
          exact ⟨0, by rw [List.getElem?_drop]; exact hk⟩) rfl
      refine ⟨_, rfl, _, rfl, p, _, rfl, DPut.k (k := Sum.inl (k : Int)) e4 ?_, ⟨_, rfl, same_upd s4 hp, ?_⟩⟩
      · rw [List.length_map, List.length_take]
        have := hz.len
        exact small _ (by omega)
      · rw [upd_same, dkv_new nk, take_more hk]
    rintro σ H' ⟨c, rfl, s4, e4⟩
    rw [List.length_map, List.take_length] at e4
    obtain ⟨d, L⟩ := L
    -- the four steps
    refine ⟨4, rfl, by decide, by decide, for_range (lo := 0) (n := 4) (fun i σ H' => ∃ c st rc nr hs n2 nA, σ = [some (.ref l), some (.ref a), c, some (.ref D1), some (.ref nA), some (.ref p), st, rc, nr] ∧ Same H2 H' ∧ H' p = some (.dK (dkv hs)) ∧ IL H' nA n2 ∧ HInv g m i hs n2)
      ⟨_, _, _, _, ns, ns, D2, rfl, s4, e4, s4 _ _ e2, hz⟩ ?_ ?_⟩
    · rintro i σ H' hi ⟨c, st, rc, nr, hs, n2, nA, rfl, s5, e5, en, hv⟩
      refine ⟨Nat.zero_le _, fun r hr => ?_⟩
      have hr2 := s5.free hr
      have rp : p ≠ r := ne_of_none e5 hr
      have rn : nA ≠ r := ne_of_none en hr
      have pn : nA ≠ p := ne_of en e5 (by intro z; cases z)
      refine ⟨_, rfl, nA, rfl, ⟨_, SqL.of (by rw [upd_ne rn]; exact en)⟩, for_list (K := K) (a := nA) (xs := vn n2) (fun i1 σ H' => ∃ c nr rl, σ = [some (.ref l), some (.ref a), c, some (.ref D1), some (.ref nA), some (.ref p), some (.int (0 + (i : Int))), some (.ref r), nr] ∧ Same H2 H' ∧ H' p = some (.dK (dkv (hs ++ rl))) ∧ IL H' r rl ∧ IL H' nA n2 ∧ RInv g m hs n2 i1 [] 0 rl)
        ⟨_, _, [], rfl, same_upd s5 hr2, (by rw [upd_ne rp, List.append_nil]; exact e5), upd_same, (by unfold IL; rw [upd_ne rn]; exact en), RInv.start hv⟩ (fun i σ H' _ ⟨_, _, _, _, _, _, _, e, _⟩ => SqL.of e) ?_ ?_⟩
      · rintro i1 x σ H3 hi1 ⟨c1, nr1, rl, rfl, s6, e6, er, en6, rv⟩
        obtain ⟨k, hk, rfl⟩ := at_vn hi1
        have kn : k ∈ n2 := List.mem_of_getElem? hk
        have kl : k < Vbwsar.size g := ((hv.is k).mp (hv.sub k kn)).1
        have L3 := L.same (s3.trans s6)
        refine ⟨_, rfl, l, CL, d.dx, _, _, rfl, L3.ins, T.clL, T.aAbout, L3.fAbout, _, rfl, d.ab, _, _, _, rfl, rfl, SqL.of L3.about, L3.aboutAt kl, _, rfl, ⟨_, SqL.of (L3.aat k kl)⟩,
          for_list (K := K) (a := d.al.getD k 0) (xs := vn (Vbwsar.around g k)) (fun j σ H' => ∃ nr rl, σ = [some (.ref l), some (.ref a), some (.int (k : Int)), some (.ref D1), some (.ref nA), some (.ref p), some (.int (0 + (i : Int))), some (.ref r), nr] ∧ Same H2 H' ∧ H' p = some (.dK (dkv (hs ++ rl))) ∧ IL H' r rl ∧ IL H' nA n2 ∧ RInv g m hs n2 i1 (Vbwsar.around g k) j rl)
          ⟨_, rl, rfl, s6, e6, er, en6, rv.enter⟩ (fun j σ H' _ ⟨_, _, _, s7, _⟩ => SqL.of ((L.same (s3.trans s7)).aat k kl)) ?_ ?_⟩
        · rintro j x σ H4 hj ⟨nr2, rl2, rfl, s7, e7, er7, en7, rv7⟩
          obtain ⟨y, hy, rfl⟩ := at_vn hj
          have ya : y ∈ Vbwsar.around g k := List.mem_of_getElem? hy
          have yl : y < m.length := by
            rw [hlen]
            exact GT.around_lt kl ya
          refine ⟨_, rfl, _, rfl, a, _, _, _, rfl, rfl, SqL.of (s7 _ _ (s3 _ _ hm)), vn_atI yl, rfl, _, rfl, ?_⟩
          rw [int_eq5]
          cases c5 : (m.getD y 0 == 5) with
          | false =>
            refine iteF (iteF ⟨_, rl2, rfl, s7, e7, er7, en7, rv7.pass hy (.inl fun e => ?_)⟩)
            rw [e] at c5
            cases c5
          | true =>
            refine iteT ⟨_, rfl, _, rfl, p, _, rfl, DGet.k (k := Sum.inl (y : Int)) e7, _, rfl, ?_⟩
            rw [dkv_val]
            have w5 : m.getD y 0 = 5 := by simpa using c5
            have ln := rv7.len hv
            rw [List.length_append] at ln
            by_cases ym : y ∈ hs ++ rl2
            · rw [decide_eq_true ym]
              exact iteF ⟨_, rl2, rfl, s7, e7, er7, en7, rv7.pass hy (.inr ym)⟩
            · rw [decide_eq_false ym]
              have rp7 : p ≠ r := ne_of e7 er7 (by intro z; cases z)
              have rn7 : nA ≠ r := rn
              refine iteT ⟨_, rfl, _, rfl, p, _, rfl, DPut.k (k := Sum.inl (y : Int)) e7 (by rw [List.length_map, List.length_append]; exact small _ (by omega)), ?_⟩
              have er8 : upd H4 p (.dK (dkv (hs ++ rl2 ++ [y]))) r = some (.lst (vn rl2)) := by
                rw [upd_ne (fun e => rp7 e.symm)]
                exact er7
              rw [dkv_new ym]
              refine ⟨_, rfl, .inl ⟨rfl, _, SqL.of er8⟩, _, rfl, r, _, _, rfl, rfl, er8, (by rw [List.length_map]; exact small _ (by omega)), ?_⟩
              refine ⟨_, rl2 ++ [y], rfl, same_upd (same_upd s7 hp) hr2, ?_, ?_, ?_, rv7.take kn kl hy w5 ym⟩
              · rw [upd_ne rp7, upd_same, List.append_assoc]
              · unfold IL
                rw [upd_same]
                show _ = some (HO.lst ((rl2 ++ [y]).map _))
                rw [List.map_append]
                rfl
              · unfold IL
                rw [upd_ne rn7, upd_ne pn]
                exact en7
        · rintro σ H4 ⟨nr2, rl2, rfl, s7, e7, er7, en7, rv7⟩
          rw [List.length_map] at rv7
          exact ⟨_, _, rl2, rfl, s7, e7, er7, en7, rv7.leave hk⟩
      · rintro σ H3 ⟨c1, nr1, rl, rfl, s6, e6, er, en6, rv⟩
        rw [List.length_map] at rv
        exact ⟨_, rfl, _, _, _, _, _, rl, r, rfl, s6, e6, er, rv.done hv⟩
    · rintro σ H' ⟨c, st, rc, nr, hs, n2, nA, rfl, s5, e5, en, hv⟩
      exact ⟨_, rfl, q H' p hs (s3.trans s5) (s3.free hp) e5 hv.nd hv.is⟩
end
end Gr
set_option Elab.async false
set_option linter.all false
set_option maxRecDepth 100000
set_option maxHeartbeats 4000000
namespace Gr
open PySem PySem.Spec PyProof.Rows L2
open Vbwsar (Ground)
theorem ixNat {n j : Nat} (h : j < n) : ixN n (j : Int) = some j := by
  unfold ixN
  rw [if_pos (Int.natCast_nonneg _), if_pos (by omega), Int.toNat_natCast]
theorem vn_len {l : List Nat} : (vn l).length = l.length := List.length_map ..
theorem vn_ixN {l : List Nat} {k : Nat} (h : k < l.length) : ixN (vn l).length (k : Int) = some k := ixNat (by rw [vn_len]; exact h)
theorem IL.set {H : Hp} {a : Addr} {l : List Nat} {k v : Nat} : IL (upd H a (.lst ((vn l).set k (V.int (v : Int))))) a (l.set k v) := by
  unfold IL
  rw [upd_same, vn_set]
/-! ## room_in -/
abbrev sRoom : Stmt := top 13
abbrev NRoom : List Str := ["materials", "water", "cell"]
theorem scRoom : FnScope NRoom ["materials", "water", "cell"] (defScope sRoom) := ⟨rfl, rfl, rfl, by decide +kernel, rfl, by decide +kernel, by decide +kernel⟩
def spRoom : Sp := fun vs H Q _ => ∃ (a b : Addr) (m w : List Nat) (k : Nat), vs = [.ref a, .ref b, .int k] ∧ IL H a m ∧ IL H b w ∧ k < m.length ∧ k < w.length ∧ w.getD k 0 ≤ 8 ∧ Q (.int (roomM m w k : Int)) H
theorem int_eq0 (n : Nat) : decide (V.int (n : Int) = V.int 0) = (n == 0) := int_eqN n 0
section
variable {P : Program} {w : World} {K : PySem.W.Frag} {mg : Str → Option Value} {base : Heap} {CL CG : Addr}
theorem ok_room {f : Addr} {fd : FuncData} (F : Fun K "room_in" "room_in" sRoom f fd) (T : Txt K mg CL CG) : FnOk P w K mg base CX0 1 f fd NRoom spRoom := by
  refine F.ok scRoom (fun vs H Q E h => ?_) (fun cdv A outer s H vs Q E hr h => ?_)
  · obtain ⟨_, _, _, _, _, rfl, _⟩ := h
    rfl
  · refine ⟨_, pss_cons (ps_if (pt_cmpR op_eq (pe_ix ix_list (pv 0) (pv 2) (fun _ _ => rfl)) (pe_gi T.gAIR) (nomark _))
      (pss_one (ps_ret (pe_op op_sub (pe_gi T.gFULL) (pe_ix ix_list (pv 1) (pv 2) (fun _ _ => rfl))))) pss_nil)
      (pss_one (ps_ret pe_int)), ?_⟩
    obtain ⟨a, b, m, w, k, rfl, h1, h2, h3, h4, h5, q⟩ := h
    refine ⟨_, rfl, _, rfl, a, _, _, _, rfl, rfl, SqL.of h1, vn_atI h3, rfl, _, rfl, ?_⟩
    rw [int_eq0]
    unfold roomM at q
    cases c : (m.getD k 0 == 0) with
    | true =>
      refine iteT ⟨_, rfl, _, rfl, b, _, _, _, rfl, rfl, SqL.of h2, vn_atI h4, _, _, rfl, rfl, ?_⟩
      rw [if_pos (by simpa using c)] at q
      show Q (V.int ((8 : Int) - ((w.getD k 0 : Nat) : Int))) H
      rw [show (8 : Int) - ((w.getD k 0 : Nat) : Int) = ((8 - w.getD k 0 : Nat) : Int) by omega]
      exact q
    | false =>
      refine iteF ?_
      rw [if_neg (by simpa using c)] at q
      exact q
end
/-! ## loose_cells -/
abbrev sLoose : Stmt := top 41
abbrev NLoose : List Str := ["layout", "materials", "held", "loose", "cell", "material"]
theorem scLoose : FnScope NLoose ["layout", "materials"] (defScope sLoose) := ⟨rfl, rfl, rfl, by decide +kernel, rfl, by decide +kernel, by decide +kernel⟩
def spLoose (CL : Addr) : Sp := fun vs H Q _ => ∃ (l a : Addr) (g : Ground) (m : List Nat), vs = [.ref l, .ref a] ∧ Lay CL H l g ∧ IL H a m ∧ m.length = Vbwsar.size g ∧ Vbwsar.size g ≤ 600 ∧
  ∀ (H' : Hp) (p : Addr), Same H H' → H p = none → IL H' p ((List.range (Vbwsar.size g)).filter (looseM g m)) → Q (.ref p) H'
theorem int_eq2 (n : Nat) : decide (V.int (n : Int) = V.int 2) = (n == 2) := int_eqN n 2
section
variable {P : Program} {w : World} {K : PySem.W.Frag} {mg : Str → Option Value} {base : Heap} {CL CG : Addr}
theorem ok_loose {f fH : Addr} {fd fdH : FuncData} (F : Fun K "loose_cells" "loose_cells" sLoose f fd) (T : Txt K mg CL CG)
    (FH : Fun K "held_wood" "held_wood" sHeld fH fdH) (GH : FnOk P w K mg base CX0 2 fH fdH ["layout", "materials"] (spHeld CL)) (gH : mg "held_wood" = some (.ref fH)) (bH : Binds K fdH ["layout", "materials"] []) : FnOk P w K mg base CX0 3 f fd ["layout", "materials"] (spLoose CL) := by
  refine F.ok scLoose (fun vs H Q E h => ?_) (fun cdv A outer s H vs Q E hr h => ?_)
  · obtain ⟨_, _, _, _, rfl, _⟩ := h
    rfl
  · have hu := hu_of hr
    refine ⟨_, pss_cons (ps_set (i := 2) scLoose.nd rfl (Or.inl rfl) (pe_call GH hr rfl gH FH.kp bH .nil pass0 (pa_cons (pv 0) (pa_cons (pv 1) pa_nil))))
      (pss_cons (ps_set (i := 3) scLoose.nd rfl (Or.inl rfl) (pe_lst pa_nil))
      (pss_cons (ps_for PassesOwn.never rfl (pi_enum (by rfl) T.nenum (pa_cons (pv 1) pa_nil)) (pg_tup rfl (pgs_cons (pg_name (i := 4) scLoose.nd rfl (Or.inl rfl)) (pgs_cons (pg_name (i := 5) scLoose.nd rfl (Or.inl rfl)) pgs_nil)))
        (pss_one (ps_if (PW.pt (pw_or (pt_cmpR op_eq (pv 5) (pe_gi T.gSAND) (nomark _)) (pw_or1 (PW.pt (pw_and (pt_cmpR op_eq (pv 5) (pe_gi T.gWOOD) (nomark _)) (pw_and1 (pt_cmp (pc_dnotin hu (pv 4) (pv 2)))))))))
          (pss_one (ps_expr (pe_bm PySem.F.plainAttrs_list PySem.F.slot_list_append PySem.F.type_list_append mt_append (pv 3) (pa_cons (pv 4) pa_nil)))) pss_nil)))
      (pss_one (ps_ret (pv 3))))), ?_⟩
    obtain ⟨l, a, g, m, rfl, L, hm, hlen, hsz, q⟩ := h
    have small : ∀ n, n ≤ 600 → n < sizeLine := fun n h => small1000 (by omega)
    refine ⟨_, rfl, _, rfl, l, a, g, m, rfl, L, hm, hlen, hsz, fun H1 p hs s1 hp e1 nd is => ?_⟩
    refine ⟨Nat.zero_le _, fun r hr1 => ?_⟩
    have hr0 := s1.free hr1
    refine ⟨_, rfl, a, vn m, rfl, SqL.of (by rw [upd_ne (ne_of_none (s1 _ _ hm) hr1)]; exact s1 _ _ hm), ?_⟩
    refine for_it walk_enum (fun i σ H' => ∃ c mt, σ = [some (.ref l), some (.ref a), some (.ref p), some (.ref r), c, mt] ∧ Same H1 H' ∧ IL H' r ((List.range i).filter (looseM g m)))
      ⟨_, _, rfl, same_new hr1, upd_same⟩ (fun i σ H' _ ⟨_, _, _, s2, _⟩ => SqL.of (s2 _ _ (s1 _ _ hm))) ?_ ?_
    · rintro i x σ H2 H3 hi ⟨c, mt, rfl, s2, e2⟩ ⟨t, x1, x2, rfl, ht, rfl, h1, h2⟩
      rw [vn_len] at hi
      injection h1 with h1
      subst h1
      obtain ⟨y, hy, rfl⟩ := at_vn h2
      have yv : y = m.getD i 0 := by
        rw [List.getD_eq_getElem?_getD, hy]
        rfl
      subst yv
      have s3 : Same H1 (upd H2 t (.tup [.int (i : Int), .int ((m.getD i 0 : Nat) : Int)])) := same_of_new ht s2
      have rt : r ≠ t := ne_of_none e2 ht
      have e3 : IL (upd H2 t (.tup [.int (i : Int), .int ((m.getD i 0 : Nat) : Int)])) r ((List.range i).filter (looseM g m)) := by
        unfold IL
        rw [upd_ne rt]
        exact e2
      refine ⟨t, _, rfl, SqT.of upd_same, rfl, _, _, rfl, _, _, rfl, rfl, ?_⟩
      refine ⟨_, rfl, rfl, _, rfl, ?_⟩
      rw [int_eq2]
      have lenr : (vn ((List.range i).filter (looseM g m))).length < sizeLine := by
        rw [vn_len]
        refine Nat.lt_of_le_of_lt (List.length_filter_le _ _) (small _ ?_)
        rw [List.length_range]
        omega
      have app : looseM g m i = true → vn ((List.range i).filter (looseM g m)) ++ [V.int (i : Int)] = vn ((List.range (i + 1)).filter (looseM g m)) := fun c4 => by
        rw [filter_more, if_pos c4]
        show _ = (_ ++ [i]).map _
        rw [List.map_append]
        rfl
      have skip : looseM g m i = false → (List.range (i + 1)).filter (looseM g m) = (List.range i).filter (looseM g m) := fun c => by
        rw [filter_more, if_neg (by rw [c]; simp)]
      have hd := is i
      cases c2 : (m.getD i 0 == 2) with
      | true =>
        have c : looseM g m i = true := by
          unfold looseM
          rw [c2]
          rfl
        refine iteT (iteT ⟨_, rfl, .inl ⟨rfl, _, SqL.of e3⟩, _, rfl, r, _, _, rfl, rfl, e3, lenr, _, _, rfl, same_upd s3 hr1, ?_⟩)
        unfold IL
        rw [upd_same, app c]
      | false =>
        refine iteF ⟨_, rfl, rfl, _, rfl, ?_⟩
        rw [int_eq5]
        cases c5 : (m.getD i 0 == 5) with
        | false =>
          refine iteF (iteF ⟨_, _, rfl, s3, ?_⟩)
          rw [skip (by unfold looseM; rw [c2, c5]; rfl)]
          exact e3
        | true =>
          refine iteT ⟨_, rfl, _, rfl, p, _, rfl, DGet.k (k := Sum.inl (i : Int)) (s3 _ _ e1), _, rfl, ?_⟩
          rw [dkv_val]
          by_cases im : i ∈ hs
          · rw [decide_eq_true im]
            refine iteF ⟨_, _, rfl, s3, ?_⟩
            rw [skip (by unfold looseM; rw [c2, c5, ((is i).mp im).2]; rfl)]
            exact e3
          · rw [decide_eq_false im]
            have hf : hb g m 4 i = false := by
              cases z : hb g m 4 i with
              | false => rfl
              | true => exact absurd (hd.mpr ⟨by omega, z⟩) im
            have c : looseM g m i = true := by
              unfold looseM
              rw [c2, c5, hf]
              rfl
            refine iteT ⟨_, rfl, .inl ⟨rfl, _, SqL.of e3⟩, _, rfl, r, _, _, rfl, rfl, e3, lenr, _, _, rfl, same_upd s3 hr1, ?_⟩
            unfold IL
            rw [upd_same, app c]
    · rintro σ H2 ⟨c, mt, rfl, s2, e2⟩
      rw [vn_len, hlen] at e2
      exact ⟨_, rfl, q H2 r (s1.trans s2) hr0 e2⟩
end
end Gr
set_option Elab.async false
set_option linter.all false
set_option maxRecDepth 100000
set_option maxHeartbeats 4000000
namespace Gr
open PySem PySem.Spec PyProof.Rows L2
open Vbwsar (Ground)
/-! # Ground -/
abbrev gF (l a b : Addr) (t : Nat) : List (Str × V) := [("layout", .ref l), ("materials", .ref a), ("water", .ref b), ("ticks", .int (t : Int))]
section
variable {l a b : Addr} {t : Nat}
theorem gF_lay : (gF l a b t).lookup ("layout" : Str) = some (.ref l) := lk_here
theorem gF_mat : (gF l a b t).lookup ("materials" : Str) = some (.ref a) := (lk_past (by decide +kernel)).trans lk_here
theorem gF_wat : (gF l a b t).lookup ("water" : Str) = some (.ref b) := (lk_past (by decide +kernel)).trans ((lk_past (by decide +kernel)).trans lk_here)
theorem gF_tic : (gF l a b t).lookup ("ticks" : Str) = some (.int (t : Int)) := (lk_past (by decide +kernel)).trans ((lk_past (by decide +kernel)).trans ((lk_past (by decide +kernel)).trans lk_here))
theorem gF_no {x : Str} (h1 : (x == ("layout" : Str)) = false) (h2 : (x == ("materials" : Str)) = false) (h3 : (x == ("water" : Str)) = false) (h4 : (x == ("ticks" : Str)) = false) : (gF l a b t).lookup x = none :=
  (lk_past h1).trans ((lk_past h2).trans ((lk_past h3).trans ((lk_past h4).trans rfl)))
theorem gF_begin : (gF l a b t).lookup ("begin" : Str) = none := gF_no (by decide +kernel) (by decide +kernel) (by decide +kernel) (by decide +kernel)
theorem gF_place : (gF l a b t).lookup ("place" : Str) = none := gF_no (by decide +kernel) (by decide +kernel) (by decide +kernel) (by decide +kernel)
theorem gF_room : (gF l a b t).lookup ("room" : Str) = none := gF_no (by decide +kernel) (by decide +kernel) (by decide +kernel) (by decide +kernel)
theorem gF_pass : (gF l a b t).lookup ("pass_on" : Str) = none := gF_no (by decide +kernel) (by decide +kernel) (by decide +kernel) (by decide +kernel)
theorem gF_make : putF "ticks" (.int (t : Int)) (putF "water" (.ref b) (putF "materials" (.ref a) (putF "layout" (.ref l) []))) = gF l a b t := by
  rw [put_new, put2 (by decide +kernel), put3 (by decide +kernel) (by decide +kernel), put4 (by decide +kernel) (by decide +kernel) (by decide +kernel)]
theorem gF_putL {l' : Addr} : putF "layout" (.ref l') (gF l a b t) = gF l' a b t := put_here
theorem gF_putM {a' : Addr} : putF "materials" (.ref a') (gF l a b t) = gF l a' b t := (put_past (by decide +kernel)).trans (congrArg _ put_here)
theorem gF_putW {b' : Addr} : putF "water" (.ref b') (gF l a b t) = gF l a b' t := (put_past (by decide +kernel)).trans (congrArg _ ((put_past (by decide +kernel)).trans (congrArg _ put_here)))
theorem gF_putT {t' : Nat} : putF "ticks" (.int (t' : Int)) (gF l a b t) = gF l a b t' := (put_past (by decide +kernel)).trans (congrArg _ ((put_past (by decide +kernel)).trans (congrArg _ ((put_past (by decide +kernel)).trans (congrArg _ put_here)))))
end
/-- at x stands the ground with these cells; what is in HF belongs to others, what is in HL is its layout's -/
structure GS (CL CG : Addr) (HF H : Hp) (x : Addr) (g : Ground) (m w : List Nat) (t : Nat) (dx l a b : Addr) (HL : Hp) : Prop where
  ins : H x = some (.ins CG dx (gF l a b t))
  lay : Lay CL HL l g
  subL : Same HL H
  subF : Same HF H
  dis : ∀ c o, HF c = some o → HL c = none
  im : IL H a m
  iw : IL H b w
  ab : a ≠ b
  fa : HF a = none
  fb : HF b = none
  fx : HF x = none
  la : HL a = none
  lb : HL b = none
  lx : HL x = none
  ml : m.length = Vbwsar.size g
  wl : w.length = Vbwsar.size g
  sz : Vbwsar.size g ≤ 600
  w8 : ∀ k, w.getD k 0 ≤ 8
  m5 : ∀ k, m.getD k 0 ≤ 5
  most : g.sx ≤ 12 ∧ g.sy ≤ 12 ∧ g.sz ≤ 12
def GE (CL CG : Addr) (HF H : Hp) (x : Addr) (g : Ground) (m w : List Nat) (t : Nat) : Prop := ∃ dx l a b HL, GS CL CG HF H x g m w t dx l a b HL
section
variable {CL CG x dx l a b : Addr} {HF H H' HL : Hp} {g : Ground} {m w : List Nat} {t : Nat}
theorem GS.ge (h : GS CL CG HF H x g m w t dx l a b HL) : GE CL CG HF H x g m w t := ⟨_, _, _, _, _, h⟩
theorem GS.same (h : GS CL CG HF H x g m w t dx l a b HL) (s : Same H H') : GS CL CG HF H' x g m w t dx l a b HL :=
  ⟨s _ _ h.ins, h.lay, h.subL.trans s, h.subF.trans s, h.dis, s _ _ h.im, s _ _ h.iw, h.ab, h.fa, h.fb, h.fx, h.la, h.lb, h.lx, h.ml, h.wl, h.sz, h.w8, h.m5, h.most⟩
theorem GS.layH (h : GS CL CG HF H x g m w t dx l a b HL) : Lay CL H l g := h.lay.same h.subL
theorem GS.xa (h : GS CL CG HF H x g m w t dx l a b HL) : x ≠ a := ne_of h.ins h.im (by intro z; cases z)
theorem GS.xb (h : GS CL CG HF H x g m w t dx l a b HL) : x ≠ b := ne_of h.ins h.iw (by intro z; cases z)
theorem GS.two (h : GS CL CG HF H x g m w t dx l a b HL) : Lay CL HL l g ∧ Same HL H ∧ HL a = none ∧ HL b = none := ⟨h.lay, h.subL, h.la, h.lb⟩
/-- the materials changed in place -/
theorem GS.setM (h : GS CL CG HF H x g m w t dx l a b HL) {k v : Nat} (hv : v ≤ 5) : GS CL CG HF (upd H a (.lst ((vn m).set k (V.int (v : Int))))) x g (m.set k v) w t dx l a b HL :=
  ⟨by rw [upd_ne h.xa]; exact h.ins, h.lay, same_upd h.subL h.la, same_upd h.subF h.fa, h.dis, IL.set, by unfold IL; rw [upd_ne h.ab.symm]; exact h.iw, h.ab, h.fa, h.fb, h.fx, h.la, h.lb, h.lx, by rw [List.length_set]; exact h.ml, h.wl, h.sz, h.w8, set_most h.m5 hv, h.most⟩
theorem GS.setW (h : GS CL CG HF H x g m w t dx l a b HL) {k v : Nat} (hv : v ≤ 8) : GS CL CG HF (upd H b (.lst ((vn w).set k (V.int (v : Int))))) x g m (w.set k v) t dx l a b HL :=
  ⟨by rw [upd_ne h.xb]; exact h.ins, h.lay, same_upd h.subL h.lb, same_upd h.subF h.fb, h.dis, by unfold IL; rw [upd_ne h.ab]; exact h.im, IL.set, h.ab, h.fa, h.fb, h.fx, h.la, h.lb, h.lx, h.ml, by rw [List.length_set]; exact h.wl, h.sz, set_most h.w8 hv, h.m5, h.most⟩
/-- other lists told of, other ticks -/
theorem GS.fld (h : GS CL CG HF H x g m w t dx l a b HL) {a' b' : Addr} {m' w' : List Nat} {t' : Nat} (im : IL H a' m') (iw : IL H b' w') (ab : a' ≠ b') (fa : HF a' = none) (fb : HF b' = none) (la : HL a' = none) (lb : HL b' = none)
    (ml : m'.length = Vbwsar.size g) (wl : w'.length = Vbwsar.size g) (w8 : ∀ k, w'.getD k 0 ≤ 8) (m5 : ∀ k, m'.getD k 0 ≤ 5) : GS CL CG HF (upd H x (.ins CG dx (gF l a' b' t'))) x g m' w' t' dx l a' b' HL :=
  ⟨upd_same, h.lay, same_upd h.subL h.lx, same_upd h.subF h.fx, h.dis, by unfold IL; rw [upd_ne (fun e => ne_of h.ins im (by intro z; cases z) e.symm)]; exact im, by unfold IL; rw [upd_ne (fun e => ne_of h.ins iw (by intro z; cases z) e.symm)]; exact iw, ab, fa, fb, h.fx, la, lb, h.lx, ml, wl, h.sz, w8, m5, h.most⟩
end
/-! ## place -/
abbrev sPlace : Stmt := inClass (top 14) 2
abbrev NPlace : List Str := ["self", "cell", "material"]
theorem scPlace : FnScope NPlace ["self", "cell", "material"] (defScope sPlace) := ⟨rfl, rfl, rfl, by decide +kernel, rfl, by decide +kernel, by decide +kernel⟩
def spPlace (CL CG : Addr) : Sp := fun vs H Q _ => ∃ (HF : Hp) (x : Addr) (g : Ground) (m w : List Nat) (t k v : Nat), vs = [.ref x, .int (k : Int), .int (v : Int)] ∧ GE CL CG HF H x g m w t ∧ k < Vbwsar.size g ∧ v ≤ 5 ∧
  ∀ H', GE CL CG HF H' x g (m.set k v) (if v = 0 then w else w.set k 0) t → Q .non H'
/-! ## room -/
abbrev sGRoom : Stmt := inClass (top 14) 3
abbrev NGRoom : List Str := ["self", "cell"]
theorem scGRoom : FnScope NGRoom ["self", "cell"] (defScope sGRoom) := ⟨rfl, rfl, rfl, by decide +kernel, rfl, by decide +kernel, by decide +kernel⟩
def spGRoom (CL CG : Addr) : Sp := fun vs H Q _ => ∃ (HF : Hp) (x : Addr) (g : Ground) (m w : List Nat) (t k : Nat), vs = [.ref x, .int (k : Int)] ∧ GE CL CG HF H x g m w t ∧ k < Vbwsar.size g ∧ Q (.int (roomM m w k : Int)) H
/-! ## pass_on -/
abbrev sPass : Stmt := inClass (top 14) 4
abbrev NPass : List Str := ["self", "materials", "water", "ticks"]
theorem scPass : FnScope NPass ["self", "materials", "water", "ticks"] (defScope sPass) := ⟨rfl, rfl, rfl, by decide +kernel, rfl, by decide +kernel, by decide +kernel⟩
def spPass (CL CG : Addr) : Sp := fun vs H Q _ => ∃ (HF HL : Hp) (x dx l a b a2 b2 : Addr) (g : Ground) (m w m2 w2 : List Nat) (t n : Nat), vs = [.ref x, .ref a2, .ref b2, .int (n : Int)] ∧ GS CL CG HF H x g m w t dx l a b HL ∧
  IL H a2 m2 ∧ IL H b2 w2 ∧ a2 ≠ b2 ∧ HF a2 = none ∧ HF b2 = none ∧ HL a2 = none ∧ HL b2 = none ∧ m2.length = Vbwsar.size g ∧ w2.length = Vbwsar.size g ∧ (∀ k, w2.getD k 0 ≤ 8) ∧ (∀ k, m2.getD k 0 ≤ 5) ∧
  ∀ H', GE CL CG HF H' x g m2 w2 (t + n) → Q .non H'
theorem int_ne0 (n : Nat) : decide (V.int (n : Int) = V.int 0) = (n == 0) := int_eqN n 0
section
variable {P : Program} {w : World} {K : PySem.W.Frag} {mg : Str → Option Value} {base : Heap} {CL CG : Addr}
theorem ok_place {f : Addr} {fd : FuncData} (F : Fun K "place" "Ground.place" sPlace f fd) (T : Txt K mg CL CG) : FnOk P w K mg base CX0 1 f fd ["self", "cell", "material"] (spPlace CL CG) := by
  refine F.ok scPlace (fun vs H Q E h => ?_) (fun cdv A outer s H vs Q E hr h => ?_)
  · obtain ⟨_, _, _, _, _, _, _, _, rfl, _⟩ := h
    rfl
  · refine ⟨_, pss_cons (ps_asg (pv 2) (pg_sub (pe_fld (pv 0) rfl) (pv 1) set_list))
      (pss_one (ps_if (pt_cmpR op_ne (pv 2) (pe_gi T.gAIR) (nomark _)) (pss_one (ps_asg pe_int (pg_sub (pe_fld (pv 0) rfl) (pv 1) set_list))) pss_nil)), ?_⟩
    obtain ⟨HF, x, g, m, w, t, k, v, rfl, ⟨dx, l, a, b, HL, G⟩, hk, hv, q⟩ := h
    refine ⟨_, rfl, _, rfl, x, CG, dx, _, _, rfl, G.ins, T.clG, T.aMat, gF_mat, _, rfl, a, _, _, k, rfl, rfl, G.im, vn_ixN (by rw [G.ml]; exact hk), ?_⟩
    have G1 := G.setM (k := k) hv
    refine ⟨_, rfl, rfl, _, rfl, ?_⟩
    rw [int_ne0]
    cases c : (v == 0) with
    | true =>
      have c' : v = 0 := by simpa using c
      rw [if_pos c'] at q
      exact iteF (q _ G1.ge)
    | false =>
      have c' : ¬ v = 0 := by simpa using c
      rw [if_neg c'] at q
      refine iteT ⟨_, rfl, x, CG, dx, _, _, rfl, G1.ins, T.clG, T.aWat, gF_wat, _, rfl, b, _, _, k, rfl, rfl, G1.iw, vn_ixN (by rw [G1.wl]; exact hk), ?_⟩
      exact q _ (G1.setW (k := k) (v := 0) (by omega)).ge
theorem ok_groom {f fR : Addr} {fd fdR : FuncData} (F : Fun K "room" "Ground.room" sGRoom f fd) (T : Txt K mg CL CG) (D : DefN K mg "room_in" sRoom NRoom fR fdR) : FnOk P w K mg base CX0 2 f fd ["self", "cell"] (spGRoom CL CG) := by
  have GR : FnOk P w K mg base CX0 1 fR fdR NRoom spRoom := ok_room D.F T
  refine F.ok scGRoom (fun vs H Q E h => ?_) (fun cdv A outer s H vs Q E hr h => ?_)
  · obtain ⟨_, _, _, _, _, _, _, rfl, _⟩ := h
    rfl
  · refine ⟨_, pss_one (ps_ret (pe_call GR hr rfl D.g D.F.kp D.b .nil pass0 (pa_cons (pe_fld (pv 0) rfl) (pa_cons (pe_fld (pv 0) rfl) (pa_cons (pv 1) pa_nil))))), ?_⟩
    obtain ⟨HF, x, g, m, w, t, k, rfl, ⟨dx, l, a, b, HL, G⟩, hk, q⟩ := h
    exact ⟨_, rfl, x, CG, dx, _, _, rfl, G.ins, T.clG, T.aMat, gF_mat, _, rfl, x, CG, dx, _, _, rfl, G.ins, T.clG, T.aWat, gF_wat, _, rfl, a, b, m, w, k, rfl, G.im, G.iw, by rw [G.ml]; exact hk, by rw [G.wl]; exact hk, G.w8 k, q⟩
theorem ok_pass {f : Addr} {fd : FuncData} (F : Fun K "pass_on" "Ground.pass_on" sPass f fd) (T : Txt K mg CL CG) : FnOk P w K mg base CX0 1 f fd ["self", "materials", "water", "ticks"] (spPass CL CG) := by
  refine F.ok scPass (fun vs H Q E h => ?_) (fun cdv A outer s H vs Q E hr h => ?_)
  · obtain ⟨_, _, _, _, _, _, _, _, _, _, _, _, _, _, _, _, rfl, _⟩ := h
    rfl
  · refine ⟨_, pss_cons (ps_fld (pv 0) (pv 1) rfl) (pss_cons (ps_fld (pv 0) (pv 2) rfl) (pss_one (ps_fldaug (pv 0) (pv 3) in_add))), ?_⟩
    obtain ⟨HF, HL, x, dx, l, a, b, a2, b2, g, m, w, m2, w2, t, n, rfl, G, im, iw, ab, fa, fb, la, lb, ml, wl, w8, m5, q⟩ := h
    have xa : x ≠ a2 := ne_of G.ins im (by intro z; cases z)
    have xb : x ≠ b2 := ne_of G.ins iw (by intro z; cases z)
    refine ⟨_, rfl, _, rfl, x, CG, dx, _, rfl, G.ins, T.clG, T.aMat, (by show 4 < 1000; decide), ?_⟩
    rw [gF_putM]
    refine ⟨_, rfl, _, rfl, x, CG, dx, _, rfl, upd_same, T.clG, T.aWat, (by show 4 < 1000; decide), ?_⟩
    rw [gF_putW]
    refine ⟨_, rfl, x, CG, dx, _, _, rfl, upd_same, T.clG, T.aTic, gF_tic, _, rfl, _, _, rfl, rfl, dx, _, upd_same, (by show 4 < 1000; decide), ?_⟩
    have e : ((t : Int) + (n : Int)) = ((t + n : Nat) : Int) := (Int.natCast_add ..).symm
    rw [e, gF_putT]
    have u : ∀ (H : Hp) (o1 o2 : HO), upd (upd H x o1) x o2 = upd H x o2 := fun H o1 o2 => by
      funext c
      by_cases z : c = x
      · rw [z, upd_same, upd_same]
      · rw [upd_ne z, upd_ne z, upd_ne z]
    rw [u, u]
    exact q _ (G.fld im iw ab fa fb la lb ml wl w8 m5).ge
end
end Gr
set_option Elab.async false
set_option linter.all false
set_option maxRecDepth 100000
set_option maxHeartbeats 4000000
namespace Gr
open PySem PySem.Spec PyProof.Rows L2
open Vbwsar (Ground)
/-- the defs of Layout that its making calls -/
structure LayT (K : PySem.W.Frag) (CL : Addr) (fI fC fA fN fP : Addr) (fdI fdC fdA fdN fdP : FuncData) : Prop where
  M : Mk K CL fI
  FI : Fun K "__init__" "Layout.__init__" sLInit fI fdI
  bI : Binds K fdI ["self", "sides"] []
  FC : Fun K "cell_at" "Layout.cell_at" sCell fC fdC
  mC : Meth K CL "cell_at" fC
  bC : Binds K fdC ["self", "x", "y", "z"] []
  FA : Fun K "cells_among" "Layout.cells_among" sAmong fA fdA
  mA : Meth K CL "cells_among" fA
  bA : Binds K fdA ["self", "places"] []
  FN : Fun K "note_neighbours" "Layout.note_neighbours" sNote fN fdN
  mN : Meth K CL "note_neighbours" fN
  bN : Binds K fdN ["self", "x", "y", "z"] []
  FP : Fun K "place_of" "Layout.place_of" sPlaceOf fP fdP
  mP : Meth K CL "place_of" fP
  bP : Binds K fdP ["self", "cell"] []
abbrev sBegin : Stmt := inClass (top 14) 1
abbrev NBegin : List Str := ["self", "sides", "materials", "water"]
theorem scBegin : FnScope NBegin ["self", "sides", "materials", "water"] (defScope sBegin) := ⟨rfl, rfl, rfl, by decide +kernel, rfl, by decide +kernel, by decide +kernel⟩
def spBegin (CL CG : Addr) : Sp := fun vs H Q _ => ∃ (HF : Hp) (x dx sa a b : Addr) (fs : List (Str × V)) (g : Ground) (m w : List Nat), vs = [.ref x, .ref sa, .ref a, .ref b] ∧ H x = some (.ins CG dx fs) ∧ (fs = [] ∨ ∃ l' a' b' t', fs = gF l' a' b' t') ∧
  H sa = some (.tup [.int (g.sx : Int), .int (g.sy : Int), .int (g.sz : Int)]) ∧ IL H a m ∧ IL H b w ∧ a ≠ b ∧ Same HF H ∧ HF x = none ∧ HF sa = none ∧ HF a = none ∧ HF b = none ∧
  m.length = Vbwsar.size g ∧ w.length = Vbwsar.size g ∧ Vbwsar.size g ≤ 600 ∧ (∀ k, w.getD k 0 ≤ 8) ∧ (∀ k, m.getD k 0 ≤ 5) ∧ g.sx ≤ 12 ∧ g.sy ≤ 12 ∧ g.sz ≤ 12 ∧
  ∀ H', GE CL CG HF H' x g m w 0 → (∀ c o, H c = some o → c ≠ x → H' c = some o) → Q .non H'
abbrev sGInit : Stmt := inClass (top 14) 0
abbrev NGInit : List Str := ["self"]
theorem scGInit : FnScope NGInit ["self"] (defScope sGInit) := ⟨rfl, rfl, rfl, by decide +kernel, rfl, by decide +kernel, by decide +kernel⟩
def but (H : Hp) (x : Addr) : Hp := fun c => if c = x then none else H c
def spGInit (CL CG : Addr) : Sp := fun vs H Q _ => ∃ (x dx : Addr), vs = [.ref x] ∧ H x = some (.ins CG dx []) ∧ ∀ H', GE CL CG (but H x) H' x Vbwsar.start [] [] 0 → Q .non H'
theorem upd_twice {H : Hp} {x : Addr} {o1 o2 : HO} : upd (upd H x o1) x o2 = upd H x o2 := by
  funext c
  by_cases z : c = x
  · rw [z, upd_same, upd_same]
  · rw [upd_ne z, upd_ne z, upd_ne z]
section
variable {P : Program} {w : World} {K : PySem.W.Frag} {mg : Str → Option Value} {base : Heap} {CL CG : Addr}
theorem ok_begin {f fI fC fA fN fP : Addr} {fd fdI fdC fdA fdN fdP : FuncData} (F : Fun K "begin" "Ground.begin" sBegin f fd) (T : Txt K mg CL CG) (Y : LayT K CL fI fC fA fN fP fdI fdC fdA fdN fdP) : FnOk P w K mg base CX0 6 f fd ["self", "sides", "materials", "water"] (spBegin CL CG) := by
  have GI : FnOk P w K mg base CX0 4 fI fdI ["self", "sides"] (spLInit CL) := ok_linit Y.FI T Y.FC Y.mC Y.bC Y.FA Y.mA Y.bA Y.FN Y.mN Y.bN
  refine F.ok scBegin (fun vs H Q E h => ?_) (fun cdv A outer s H vs Q E hr h => ?_)
  · obtain ⟨_, _, _, _, _, _, _, _, _, _, rfl, _⟩ := h
    rfl
  · refine ⟨_, pss_cons (ps_fld (pv 0) (pe_make Y.M GI hr rfl T.gL Y.bI .nil pass0 (pa_cons (pv 1) pa_nil)) rfl)
      (pss_cons (ps_fld (pv 0) (pv 2) rfl) (pss_cons (ps_fld (pv 0) (pv 3) rfl) (pss_one (ps_fld (pv 0) pe_int rfl)))), ?_⟩
    obtain ⟨HF, x, dx, sa, a, b, fs, g, m, w, rfl, hx, hfs, hsa, ha, hb, ab, sF, fx, fsa, fa, fb, ml, wl, sz, w8, m5, sx6, sy6, sz6, q⟩ := h
    refine ⟨_, rfl, fun p dp np ndp ne => ?_⟩
    have s0 : Same H (upd (upd H dp (.own p)) p (.ins CL dp [])) := (same_new ndp).trans (same_new (by rw [upd_ne ne.symm]; exact np))
    have i0 : ∀ c, c ≠ p → H c ≠ none → (upd (upd H dp (.own p)) p (.ins CL dp [])) c ≠ none := fun c _ e => by
      cases z : H c with
      | none => exact absurd z e
      | some o =>
        rw [s0 _ _ z]
        simp
    refine ⟨p, dp, sa, g, rfl, upd_same, s0 _ _ hsa, sz, (by omega), (by omega), (by omega), fun H1 k1 L => ⟨rfl, ?_⟩⟩
    have s1 : Same H H1 := fun c o e => k1 c o (s0 _ _ e) (ne_of_none e np)
    refine ⟨_, rfl, x, CG, dx, fs, rfl, s1 _ _ hx, T.clG, T.aLay, ?_, ?_⟩
    · rcases hfs with rfl | ⟨l', a', b', t', rfl⟩
      · show 0 < 1000
        decide
      · show 4 < 1000
        decide
    refine ⟨_, rfl, _, rfl, x, CG, dx, _, rfl, upd_same, T.clG, T.aMat, ?_, ?_⟩
    · rcases hfs with rfl | ⟨l', a', b', t', rfl⟩
      · show 1 < 1000
        decide
      · rw [gF_putL]
        show 4 < 1000
        decide
    refine ⟨_, rfl, _, rfl, x, CG, dx, _, rfl, upd_same, T.clG, T.aWat, ?_, ?_⟩
    · rcases hfs with rfl | ⟨l', a', b', t', rfl⟩
      · rw [put_new, put2 (by decide +kernel)]
        show 2 < 1000
        decide
      · rw [gF_putL, gF_putM]
        show 4 < 1000
        decide
    refine ⟨_, rfl, x, CG, dx, _, rfl, upd_same, T.clG, T.aTic, ?_, ?_⟩
    · rcases hfs with rfl | ⟨l', a', b', t', rfl⟩
      · rw [put_new, put2 (by decide +kernel), put3 (by decide +kernel) (by decide +kernel)]
        show 3 < 1000
        decide
      · rw [gF_putL, gF_putM, gF_putW]
        show 4 < 1000
        decide
    have e : putF "ticks" (.int 0) (putF "water" (.ref b) (putF "materials" (.ref a) (putF "layout" (.ref p) fs))) = gF p a b 0 := by
      rcases hfs with rfl | ⟨l', a', b', t', rfl⟩
      · exact gF_make (t := 0)
      · rw [gF_putL, gF_putM, gF_putW]
        exact gF_putT (t' := 0)
    rw [e, upd_twice, upd_twice, upd_twice]
    have off : ∀ c {o}, H c = some o → c ≠ sa → newPart (upd (upd H dp (.own p)) p (.ins CL dp [])) H1 p sa c = none := fun c o e n => by
      refine if_neg ?_
      rintro (z | z | z)
      · rw [z, np] at e
        cases e
      · exact n z
      · rw [s0 _ _ e] at z
        cases z
    have sN : Same (newPart (upd (upd H dp (.own p)) p (.ins CL dp [])) H1 p sa) H1 := fun c o e => by
      unfold newPart at e
      split at e
      · exact e
      · cases e
    have xs : x ≠ sa := ne_of hx hsa (by intro z; cases z)
    have as : a ≠ sa := ne_of ha hsa (by intro z; cases z)
    have bs : b ≠ sa := ne_of hb hsa (by intro z; cases z)
    have lx := off x hx xs
    have xa : x ≠ a := ne_of hx ha (by intro z; cases z)
    have xb : x ≠ b := ne_of hx hb (by intro z; cases z)
    refine q _ ⟨dx, p, a, b, _, ⟨upd_same, L, same_upd sN lx, same_upd (sF.trans s1) fx, fun c o e => off c (sF _ _ e) (fun z => by rw [z, fsa] at e; cases e), ?_, ?_, ab, fa, fb, fx, off a ha as, off b hb bs, lx, ml, wl, sz, w8, m5, sx6, sy6, sz6⟩⟩ (fun c o e n => by rw [upd_ne n]; exact s1 _ _ e)
    · unfold IL
      rw [upd_ne xa.symm]
      exact s1 _ _ ha
    · unfold IL
      rw [upd_ne xb.symm]
      exact s1 _ _ hb
theorem ok_ginit {f fB fI fC fA fN fP : Addr} {fd fdB fdI fdC fdA fdN fdP : FuncData} (F : Fun K "__init__" "Ground.__init__" sGInit f fd) (T : Txt K mg CL CG) (Y : LayT K CL fI fC fA fN fP fdI fdC fdA fdN fdP)
    (FB : Fun K "begin" "Ground.begin" sBegin fB fdB) (mB : Meth K CG "begin" fB) (bB : Binds K fdB ["self", "sides", "materials", "water"] []) : FnOk P w K mg base CX0 7 f fd ["self"] (spGInit CL CG) := by
  have GB : FnOk P w K mg base CX0 6 fB fdB ["self", "sides", "materials", "water"] (spBegin CL CG) := ok_begin FB T Y
  refine F.ok scGInit (fun vs H Q E h => ?_) (fun cdv A outer s H vs Q E hr h => ?_)
  · obtain ⟨_, _, rfl, _⟩ := h
    rfl
  · refine ⟨_, pss_one (ps_expr (pe_meth (pv 0) T.clG mB GB hr bB .nil pass0 (pa_cons (pe_tup (pa_cons pe_int (pa_cons pe_int (pa_cons pe_int pa_nil)))) (pa_cons (pe_lst pa_nil) (pa_cons (pe_lst pa_nil) pa_nil))))), ?_⟩
    obtain ⟨x, dx, rfl, hx, q⟩ := h
    refine ⟨_, rfl, x, dx, _, rfl, hx, rfl, (by show 3 ≤ sizeLine; decide), fun sa hsa => ?_⟩
    generalize g1 : upd H sa _ = H1
    obtain ⟨s1, e1⟩ := newS hsa g1
    refine ⟨(by show 0 ≤ sizeLine; decide), fun a ha => ?_⟩
    generalize g2 : upd H1 a _ = H2
    obtain ⟨s2, e2⟩ := newS ha g2
    refine ⟨(by show 0 ≤ sizeLine; decide), fun b hb => ?_⟩
    generalize g3 : upd H2 b _ = H3
    obtain ⟨s3, e3⟩ := newS hb g3
    have s := s1.trans (s2.trans s3)
    have nn : ∀ c, H c = none → but H x c = none := fun c e => by
      unfold but
      split
      · rfl
      · exact e
    refine ⟨but H x, x, dx, sa, a, b, [], Vbwsar.start, [], [], rfl, s _ _ hx, .inl rfl, s3 _ _ (s2 _ _ e1), s3 _ _ e2, e3, ne_of_none e2 hb, ?_, if_pos rfl, nn sa hsa, nn a (s1.free ha), nn b (s1.free (s2.free hb)), rfl, rfl, Nat.zero_le _, fun k => Nat.zero_le _, fun k => Nat.zero_le _, Nat.zero_le _, Nat.zero_le _, Nat.zero_le _, fun H' G _ => q H' G⟩
    intro c o e
    unfold but at e
    split at e
    · cases e
    · exact s _ _ e
end
end Gr
set_option linter.all false
set_option maxHeartbeats 1000000
namespace Gr
open Vbwsar
open GT (WT at0 write_wt same_iff lightOf lightOf_is Alike Down relit_light)
/-! # The specification's ground against lists of whole numbers -/
structure Dim (g s : Ground) : Prop where
  x : s.sx = g.sx
  y : s.sy = g.sy
  z : s.sz = g.sz
theorem Dim.refl (g : Ground) : Dim g g := ⟨rfl, rfl, rfl⟩
theorem Dim.trans {g s t : Ground} (a : Dim g s) (b : Dim s t) : Dim g t := ⟨b.x.trans a.x, b.y.trans a.y, b.z.trans a.z⟩
theorem Dim.symm {g s : Ground} (a : Dim g s) : Dim s g := ⟨a.x.symm, a.y.symm, a.z.symm⟩
theorem Dim.size {g s : Ground} (d : Dim g s) : Vbwsar.size s = Vbwsar.size g := by
  unfold Vbwsar.size
  rw [d.x, d.y, d.z]
theorem Dim.below {g s : Ground} (d : Dim g s) (k : Nat) : Vbwsar.below s k = Vbwsar.below g k := by
  unfold Vbwsar.below
  rw [d.x, d.y]
theorem Dim.above {g s : Ground} (d : Dim g s) (k : Nat) : Vbwsar.above s k = Vbwsar.above g k := by
  unfold Vbwsar.above
  rw [d.x, d.y, d.z]
theorem Dim.beside {g s : Ground} (d : Dim g s) (k : Nat) : Vbwsar.beside s k = Vbwsar.beside g k := by
  unfold Vbwsar.beside
  rw [d.x, d.y]
theorem Dim.around {g s : Ground} (d : Dim g s) (k : Nat) : Vbwsar.around s k = Vbwsar.around g k := by
  unfold Vbwsar.around
  rw [d.below, d.beside, d.above]
theorem Dim.key {g s : Ground} (d : Dim g s) (c : Cell) : Vbwsar.keyOf s c = Vbwsar.keyOf g c := by
  unfold Vbwsar.keyOf
  rw [d.x, d.y]
theorem Dim.keys {g s : Ground} (d : Dim g s) : Vbwsar.keys s = List.range (Vbwsar.size g) := by
  unfold Vbwsar.keys
  rw [d.size]
theorem Dim.cell {g s : Ground} (d : Dim g s) (k : Nat) : Vbwsar.cellAt s k = Vbwsar.cellAt g k := by
  unfold Vbwsar.cellAt
  rw [d.x, d.y]
/-- what stands in the ground s, as two lists -/
structure Holds (g s : Ground) (m w : List Nat) : Prop where
  dim : Dim g s
  wm : WT s.mat
  ww : WT s.water
  ml : m.length = Vbwsar.size g
  wl : w.length = Vbwsar.size g
  em : ∀ k, matAt s k = m.getD k 0
  ew : ∀ k, waterAt s k = w.getD k 0
  w8 : ∀ k, w.getD k 0 ≤ 8
  dry : ∀ k, m.getD k 0 ≠ 0 → w.getD k 0 = 0
  sz : Vbwsar.size g ≤ 600
theorem Holds.big {g s : Ground} {m w : List Nat} (h : Holds g s m w) {k : Nat} (hk : k < Vbwsar.size g) : k < 2 ^ 40 := by
  have := h.sz
  omega
theorem em_set {t : Vbwsae.T Nat} {m : List Nat} {k v : Nat} (w : WT t) (e : ∀ j, at0 t j = m.getD j 0) (hk : k < m.length) (hb : k < 2 ^ 40) :
    WT (write t k v) ∧ ∀ j, at0 (write t k v) j = (m.set k v).getD j 0 := by
  have a := write_wt (v := v) w hb
  refine ⟨a.1, fun j => ?_⟩
  rw [a.2 j, getD_set]
  by_cases c : j = k
  · subst c
    rw [if_pos rfl, if_pos ⟨rfl, hk⟩]
  · rw [if_neg c, if_neg (fun q => c q.1.symm), e]
theorem foot_is {g s : Ground} {m w : List Nat} (h : Holds g s m w) (k : Nat) : footed s k = footM g m k := by
  unfold footed footM
  rw [h.dim.below, h.dim.beside]
  have e2 : ∀ l : List Nat, (l.any fun j => matAt s j == STONE) = l.any fun j => m.getD j 0 == 1 := fun l => by
    congr 1
    funext j
    rw [h.em]
    rfl
  rw [e2]
  congr 1
  cases Vbwsar.below g k with
  | none => rfl
  | some j =>
    show (solid (matAt s j) && matAt s j != WOOD) = _
    rw [h.em]
    rfl
theorem held_is {g s : Ground} {m w : List Nat} (h : Holds g s m w) : ∀ n k, k ∈ Vbwsar.held s n ↔ (k < Vbwsar.size g ∧ hb g m n k = true)
  | 0, k => by
    unfold Vbwsar.held hb
    rw [List.mem_filter, h.dim.keys, List.mem_range, h.em, foot_is h]
    exact Iff.rfl
  | n + 1, k => by
    have ih := held_is h n
    unfold Vbwsar.held heldRound hb
    rw [List.mem_filter, h.dim.keys, List.mem_range, h.em, h.dim.around]
    refine and_congr_right fun hk => ?_
    rw [Bool.or_eq_true, Bool.or_eq_true, Bool.and_eq_true, Bool.and_eq_true, List.contains_iff_mem, ih k]
    refine or_congr (by simp [hk]) (and_congr_right fun _ => ?_)
    rw [List.any_eq_true, List.any_eq_true]
    constructor
    · rintro ⟨j, a, b⟩
      exact ⟨j, a, ((ih j).mp (List.contains_iff_mem.mp b)).2⟩
    · rintro ⟨j, a, b⟩
      exact ⟨j, a, List.contains_iff_mem.mpr ((ih j).mpr ⟨GT.around_lt hk a, b⟩)⟩
theorem loose_is {g s : Ground} {m w : List Nat} (h : Holds g s m w) {k : Nat} (hk : k < Vbwsar.size g) : Vbwsar.loose s (Vbwsar.held s HANG) k = looseM g m k := by
  unfold Vbwsar.loose looseM
  rw [h.em]
  have e : (Vbwsar.held s HANG).contains k = hb g m 4 k := by
    rw [Bool.eq_iff_iff, List.contains_iff_mem, held_is h]
    exact ⟨fun q => q.2, fun q => ⟨hk, q⟩⟩
  rw [e]
  rfl
/-! ## Cells below -/
theorem down_append {g : Ground} {a b : List Nat} (ha : Down g a) (hb : Down g b) : Down g (a ++ b) := by
  intro x y z z' hx hy hz q m
  rcases List.mem_append.mp m with e | e
  · exact List.mem_append.mpr (.inl (ha x y z z' hx hy hz q e))
  · exact List.mem_append.mpr (.inr (hb x y z z' hx hy hz q e))
theorem down_from {g : Ground} {k : Nat} (hk : k < Vbwsar.size g) : Down g (downFrom g g.sz k) ∧ (∀ c ∈ downFrom g g.sz k, c < Vbwsar.size g) ∧ k ∈ downFrom g g.sz k ∧ ∀ j, Vbwsar.below g k = some j → j ∈ downFrom g g.sz k := by
  obtain ⟨x, y, z, hx, hy, hz, rfl⟩ := GT.coords hk
  have D := GT.downFrom_key (g := g) hx hy g.sz z (by omega)
  refine ⟨?_, ?_, (D _).mpr ⟨z, Nat.le_refl _, rfl⟩, ?_⟩
  · intro x1 y1 z1 z2 hx1 hy1 hz1 q m
    obtain ⟨z3, h3, e⟩ := (D _).mp m
    obtain ⟨rfl, rfl, rfl⟩ := GT.key_inj hx1 hy1 hx hy e
    exact (D _).mpr ⟨z2, by omega, rfl⟩
  · intro c m
    obtain ⟨z3, h3, rfl⟩ := (D _).mp m
    exact GT.key_lt hx hy (by omega)
  · intro j e
    rw [GT.below_key hx hy] at e
    by_cases c : 0 < z
    · rw [if_pos c] at e
      exact (D _).mpr ⟨z - 1, by omega, (Option.some.inj e).symm⟩
    · rw [if_neg c] at e
      cases e
theorem downFrom_dim {g s : Ground} (d : Dim g s) : ∀ (n k : Nat), downFrom s n k = downFrom g n k
  | 0, k => rfl
  | n + 1, k => by
    unfold downFrom
    rw [d.below]
    cases Vbwsar.below g k with
    | none => rfl
    | some j =>
      show k :: downFrom s n j = k :: downFrom g n j
      rw [downFrom_dim d n j]
/-! ## What falls -/
structure Fell (g s : Ground) (m : List Nat) (i : Nat) (x : Ground × List Nat) (y : List Nat × List Nat) : Prop where
  holds : Holds g x.1 y.1 y.2
  light : x.1.light = s.light
  same : ∀ k, i ≤ k → y.1.getD k 0 = m.getD k 0
  alike : ∀ k, k ∉ x.2 → y.1.getD k 0 = m.getD k 0
  down : Down g x.2
  lt : ∀ c ∈ x.2, c < Vbwsar.size g
  five : ∀ k, y.1.getD k 0 ≤ 5
theorem fall_step {g s : Ground} {m w : List Nat} {i : Nat} {x : Ground × List Nat} {y : List Nat × List Nat} (h : Holds g s m w) (hi : i < Vbwsar.size g) (f : Fell g s m i x y) :
    Fell g s m (i + 1) (fallsAt (Vbwsar.held s HANG) x i) (if looseM g m i = true then fallStep g y i else y) := by
  have up : Fell g s m (i + 1) x y := ⟨f.holds, f.light, fun k q => f.same k (by omega), f.alike, f.down, f.lt, f.five⟩
  have e1 : Vbwsar.loose x.1 (Vbwsar.held s HANG) i = looseM g m i := by
    rw [← loose_is h hi]
    unfold Vbwsar.loose
    rw [f.holds.em, h.em, f.same i (Nat.le_refl _)]
  unfold fallsAt
  rw [e1, f.holds.dim.below]
  cases c : looseM g m i with
  | false => exact up
  | true =>
    rw [if_neg (by decide), if_pos rfl]
    unfold fallStep
    cases cb : Vbwsar.below g i with
    | none => exact up
    | some j =>
      show Fell g s m (i + 1) (if solid (matAt x.1 j) = true then x else _) (if y.1.getD j 0 = 0 then _ else y)
      have hj : j < i := GT.below_lt hi cb
      by_cases cs : y.1.getD j 0 = 0
      · rw [if_neg (by rw [f.holds.em, cs]; decide), if_pos cs]
        have hm := f.holds
        have bi := hm.big hi
        have bj := hm.big (k := j) (by omega)
        have li : i < y.1.length := by rw [hm.ml]; exact hi
        have lj : j < y.1.length := by omega
        have lwi : i < y.2.length := by rw [hm.wl]; exact hi
        have lwj : j < y.2.length := by omega
        have a1 := em_set (v := matAt x.1 i) hm.wm hm.em lj bj
        have a2 := em_set (v := AIR) a1.1 a1.2 (by rw [List.length_set]; exact li) bi
        have b1 := em_set (v := 0) hm.ww hm.ew lwj bj
        have b2 := em_set (v := waterAt x.1 j) b1.1 b1.2 (by rw [List.length_set]; exact lwi) bi
        have em : matAt x.1 i = y.1.getD i 0 := hm.em i
        have ew : waterAt x.1 j = y.2.getD j 0 := hm.ew j
        have D := down_from hi
        rw [em] at a2
        rw [ew] at b2
        have nm : y.1.getD i 0 ≠ 0 := fun q => by
          have z := f.same i (Nat.le_refl _)
          rw [q] at z
          unfold looseM at c
          rw [← z] at c
          simp at c
        have wi : y.2.getD i 0 = 0 := hm.dry i nm
        have gm : ∀ k, ((y.1.set j (y.1.getD i 0)).set i 0).getD k 0 = if k = i then 0 else if k = j then y.1.getD i 0 else y.1.getD k 0 := fun k => by
          rw [getD_set, getD_set, List.length_set]
          by_cases c1 : k = i
          · rw [if_pos ⟨c1.symm, by omega⟩, if_pos c1]
          · rw [if_neg (fun q => c1 q.1.symm), if_neg c1]
            by_cases c2 : k = j
            · rw [if_pos ⟨c2.symm, by omega⟩, if_pos c2]
            · rw [if_neg (fun q => c2 q.1.symm), if_neg c2]
        have gw : ∀ k, ((y.2.set i (y.2.getD j 0)).set j 0).getD k 0 = if k = j then 0 else if k = i then y.2.getD j 0 else y.2.getD k 0 := fun k => by
          rw [getD_set, getD_set, List.length_set]
          by_cases c1 : k = j
          · rw [if_pos ⟨c1.symm, by omega⟩, if_pos c1]
          · rw [if_neg (fun q => c1 q.1.symm), if_neg c1]
            by_cases c2 : k = i
            · rw [if_pos ⟨c2.symm, by omega⟩, if_pos c2]
            · rw [if_neg (fun q => c2 q.1.symm), if_neg c2]
        have nij : j ≠ i := by omega
        refine ⟨⟨⟨hm.dim.x, hm.dim.y, hm.dim.z⟩, ?_, ?_, ?_, ?_, ?_, ?_, ?_, ?_, hm.sz⟩, f.light, ?_, ?_, ?_, ?_, ?_⟩
        · show WT (write (write x.1.mat j (matAt x.1 i)) i AIR)
          rw [em]
          exact a2.1
        · show WT (write (write x.1.water j 0) i (waterAt x.1 j))
          rw [ew]
          exact b2.1
        · rw [List.length_set, List.length_set]
          exact hm.ml
        · rw [List.length_set, List.length_set]
          exact hm.wl
        · intro k
          show at0 (write (write x.1.mat j (matAt x.1 i)) i AIR) k = _
          rw [em]
          refine (a2.2 k).trans ?_
          rfl
        · intro k
          show at0 (write (write x.1.water j 0) i (waterAt x.1 j)) k = _
          rw [ew]
          refine (b2.2 k).trans ?_
          rw [List.set_comm _ _ nij]
        · intro k
          rw [gw]
          split
          · omega
          · split
            · exact hm.w8 j
            · exact hm.w8 k
        · intro k q
          rw [gm] at q
          rw [gw]
          by_cases c1 : k = j
          · rw [if_pos c1]
          · rw [if_neg c1]
            by_cases c2 : k = i
            · rw [if_pos c2] at q
              exact absurd rfl q
            · rw [if_neg c2]
              rw [if_neg c2, if_neg c1] at q
              exact hm.dry k q
        · intro k q
          show ((y.1.set j (y.1.getD i 0)).set i 0).getD k 0 = _
          rw [gm, if_neg (by omega), if_neg (by omega)]
          exact f.same k (by omega)
        · intro k q
          show ((y.1.set j (y.1.getD i 0)).set i 0).getD k 0 = _
          have q1 : k ∉ x.2 := fun e => q (List.mem_append.mpr (.inl e))
          have q2 : k ∉ downFrom x.1 x.1.sz i := fun e => q (List.mem_append.mpr (.inr e))
          rw [downFrom_dim hm.dim, hm.dim.z] at q2
          rw [gm, if_neg (fun e => q2 (by rw [e]; exact D.2.2.1)), if_neg (fun e => q2 (by rw [e]; exact D.2.2.2 j cb))]
          exact f.alike k q1
        · show Down g (x.2 ++ downFrom x.1 x.1.sz i)
          rw [downFrom_dim hm.dim, hm.dim.z]
          exact down_append f.down D.1
        · intro c q
          rcases List.mem_append.mp q with e | e
          · exact f.lt c e
          · rw [downFrom_dim hm.dim, hm.dim.z] at e
            exact D.2.1 c e
        · intro k
          show ((y.1.set j (y.1.getD i 0)).set i 0).getD k 0 ≤ 5
          rw [gm]
          split
          · omega
          · split
            · exact f.five i
            · exact f.five k
      · rw [if_pos (by rw [f.holds.em]; unfold solid AIR; rw [bne_iff_ne]; exact cs), if_neg cs]
        exact up
end Gr
set_option linter.all false
set_option maxHeartbeats 1000000
namespace Gr
open Vbwsar
open GT (WT at0 write_wt same_iff lightOf lightOf_is Alike Down relit_light)
theorem falls_to {g s : Ground} {m w : List Nat} (h : Holds g s m w) (five : ∀ k, m.getD k 0 ≤ 5) : ∀ i, i ≤ Vbwsar.size g →
    Fell g s m i ((List.range i).foldl (fallsAt (Vbwsar.held s HANG)) (s, [])) (((List.range i).filter (looseM g m)).foldl (fallStep g) (m, w))
  | 0, _ => ⟨h, rfl, fun k _ => rfl, fun k _ => rfl, fun _ _ _ _ _ _ _ _ q => (by cases q), fun c q => (by cases q), five⟩
  | i + 1, hi => by
    have ih := falls_to h five i (by omega)
    have st := fall_step h (by omega) ih
    rw [range_more, List.foldl_append, ← range_more, filter_more]
    by_cases c : looseM g m i = true
    · rw [if_pos c] at st
      rw [if_pos c, List.foldl_append]
      exact st
    · rw [if_neg c] at st
      rw [if_neg c]
      exact st
theorem falls_is {g s : Ground} {m w : List Nat} (h : Holds g s m w) (five : ∀ k, m.getD k 0 ≤ 5) : Fell g s m (Vbwsar.size g) (Vbwsar.falls s) (fallM g m w) := by
  unfold Vbwsar.falls
  rw [h.dim.keys]
  exact falls_to h five _ (Nat.le_refl _)
/-! ## Light that is right -/
structure Lit (s : Ground) : Prop where
  wt : WT s.light
  lit : ∀ k, at0 s.light k = lightOf s k
theorem lightOf_alike {g h : Ground} (a : Alike g h []) : lightOf h = lightOf g := by
  have d : ∀ g : Ground, Down g [] := fun g _ _ _ _ _ _ _ _ q => by cases q
  have no : ∀ g : Ground, ∀ c ∈ ([] : List Nat), c < Vbwsar.size g := fun g c q => by cases q
  funext k
  by_cases hk : k < Vbwsar.size g
  · refine GT.eq_of_ge fun v hv => ⟨fun q => ?_, fun q => ?_⟩
    · exact GT.far_ge a.symm (d h) (no h) (lightOf_is h) (lightOf_is g) 16 v k hv (by omega) (by rw [a.size]; exact hk) (fun c q => by cases q) q
    · exact GT.far_ge a (d g) (no g) (lightOf_is g) (lightOf_is h) 16 v k hv (by omega) hk (fun c q => by cases q) q
  · rw [(lightOf_is g).out k (by omega), (lightOf_is h).out k (by rw [a.size]; omega)]
theorem Lit.of {s t : Ground} (h : Lit s) (x : t.sx = s.sx) (y : t.sy = s.sy) (z : t.sz = s.sz) (m : ∀ k, matAt t k = matAt s k) (l : t.light = s.light) : Lit t :=
  ⟨by rw [l]; exact h.wt, fun k => by rw [l, h.lit, lightOf_alike ⟨x, y, z, fun k _ _ => m k⟩]⟩
theorem Lit.relit {s t : Ground} {l : List Nat} (h : Lit s) (a : Alike s t l) (d : Down s l) (hl : ∀ c ∈ l, c < Vbwsar.size s) (hs : Vbwsar.size s < 2 ^ 40) (e : t.light = s.light) : Lit (Vbwsar.relit t l) := by
  have r := relit_light a d hl hs (by rw [e]; exact h.wt) (fun k => by rw [e]; exact h.lit k)
  exact ⟨r.1, fun k => by rw [r.2, lightOf_alike (g := t) (h := Vbwsar.relit t l) ⟨rfl, rfl, rfl, fun _ _ _ => rfl⟩]⟩
theorem Holds.relit {g s : Ground} {m w l : List Nat} (h : Holds g s m w) : Holds g (Vbwsar.relit s l) m w :=
  ⟨⟨h.dim.x, h.dim.y, h.dim.z⟩, h.wm, h.ww, h.ml, h.wl, h.em, h.ew, h.w8, h.dry, h.sz⟩
/-! ## Water -/
theorem set_self {l : List Nat} {k : Nat} (hk : k < l.length) : l.set k (l.getD k 0) = l := by
  rw [List.getD_eq_getElem?_getD, List.getElem?_eq_getElem hk]
  exact List.set_getElem_self hk
/-- only the water is another -/
structure Wet (s t : Ground) : Prop where
  x : t.sx = s.sx
  y : t.sy = s.sy
  z : t.sz = s.sz
  mat : t.mat = s.mat
  light : t.light = s.light
  ticks : t.ticks = s.ticks
theorem Wet.refl (s : Ground) : Wet s s := ⟨rfl, rfl, rfl, rfl, rfl, rfl⟩
theorem Wet.trans {s t u : Ground} (a : Wet s t) (b : Wet t u) : Wet s u := ⟨b.x.trans a.x, b.y.trans a.y, b.z.trans a.z, b.mat.trans a.mat, b.light.trans a.light, b.ticks.trans a.ticks⟩
theorem Holds.water {g s : Ground} {m w : List Nat} (h : Holds g s m w) {k v : Nat} (hk : k < Vbwsar.size g) (hv : v ≤ 8) (hd : m.getD k 0 ≠ 0 → v = 0) :
    Holds g { s with water := write s.water k v } m (w.set k v) := by
  have a := em_set (v := v) h.ww h.ew (by rw [h.wl]; exact hk) (h.big hk)
  refine ⟨⟨h.dim.x, h.dim.y, h.dim.z⟩, h.wm, a.1, h.ml, by rw [List.length_set]; exact h.wl, h.em, a.2, set_most h.w8 hv, fun j q => ?_, h.sz⟩
  rw [getD_set]
  split
  · rename_i c
    exact hd (by rw [c.1]; exact q)
  · exact h.dry j q
theorem shift_is {g s : Ground} {m w : List Nat} (h : Holds g s m w) {k j n : Nat} (hk : k < Vbwsar.size g) (hj : j < Vbwsar.size g) (hn : n ≤ w.getD k 0) (ne : k ≠ j) (h8 : w.getD j 0 + n ≤ 8)
    (hd : m.getD j 0 ≠ 0 → n = 0) : Holds g (Vbwsar.shift s k j n) m ((w.set k (w.getD k 0 - n)).set j (w.getD j 0 + n)) ∧ Wet s (Vbwsar.shift s k j n) := by
  unfold Vbwsar.shift
  by_cases c : n = 0
  · subst c
    rw [if_pos rfl, Nat.sub_zero, Nat.add_zero, set_self (by rw [h.wl]; exact hk), set_self (by rw [h.wl]; exact hj)]
    exact ⟨h, Wet.refl _⟩
  · rw [if_neg c]
    unfold Vbwsar.pour Vbwsar.drain
    have a := h.water (k := k) (v := w.getD k 0 - n) hk (by have := h.w8 k; omega) (fun q => by have := h.dry k q; omega)
    have ek : waterAt s k = w.getD k 0 := h.ew k
    rw [ek]
    have ej := a.ew j
    rw [getD_set_ne ne] at ej
    have b := a.water (k := j) (v := w.getD j 0 + n) hj h8 (fun q => absurd (hd q) c)
    refine ⟨?_, ⟨rfl, rfl, rfl, rfl, rfl, rfl⟩⟩
    rw [← ej] at b ⊢
    exact b
theorem room_is {g s : Ground} {m w : List Nat} (h : Holds g s m w) (k : Nat) : Vbwsar.room s k = roomM m w k := by
  unfold Vbwsar.room roomM solid AIR FULL
  rw [h.em, h.ew]
  by_cases c : m.getD k 0 = 0
  · rw [if_pos c, c]
    rfl
  · rw [if_neg c, if_pos (bne_iff_ne.mpr c)]
theorem low_is {g s : Ground} {m w : List Nat} (h : Holds g s m w) (k : Nat) : Vbwsar.lowest s k = lowM g m w k := by
  unfold Vbwsar.lowest lowM
  rw [List.foldl_filter, h.dim.beside]
  refine GT.foldl_same (fun o j => ?_) _ _
  unfold lowStep solid AIR
  rw [h.em, h.ew]
  by_cases c : m.getD j 0 = 0
  · rw [if_pos c, c, if_pos (by decide)]
    cases o with
    | none => rfl
    | some i =>
      dsimp only
      rw [h.ew]
  · rw [if_neg c, if_neg]
    intro q
    rw [Bool.not_eq_true', bne_eq_false_iff_eq] at q
    exact c q
theorem lowStep_air {m w : List Nat} : ∀ (l : List Nat) (o : Option Nat) (j : Nat), (∀ i, o = some i → m.getD i 0 = 0) → l.foldl (lowStep m w) o = some j → m.getD j 0 = 0
  | [], o, j, ho, h => ho j h
  | a :: l, o, j, ho, h => by
    refine lowStep_air l (lowStep m w o a) j (fun i q => ?_) h
    unfold lowStep at q
    split at q
    · rename_i c
      split at q
      · rw [← Option.some.inj q]
        exact c
      · split at q
        · rw [← Option.some.inj q]
          exact c
        · rw [← Option.some.inj q]
          exact ho _ rfl
    · exact ho i q
def asideS (t : Ground) (k : Nat) : Ground := match Vbwsar.lowest t k with
  | none => t
  | some j => if waterAt t j + 2 ≤ waterAt t k then shift t k j 1 else t
def downS (s : Ground) (k : Nat) : Ground := match Vbwsar.below s k with
  | none => s
  | some j => shift s k j (min (waterAt s k) (Vbwsar.room s j))
theorem runsAt_eq (s : Ground) (k : Nat) : runsAt s k = if waterAt s k = 0 then s else asideS (downS s k) k := rfl
theorem aside_is {g s : Ground} {m w : List Nat} (h : Holds g s m w) {k : Nat} (hk : k < Vbwsar.size g) : Holds g (asideS s k) m (if 1 < w.getD k 0 then asideM g m w k else w) ∧ Wet s (asideS s k) := by
  unfold asideS asideM
  rw [low_is h]
  cases cl : lowM g m w k with
  | none =>
    rw [ite_self]
    exact ⟨h, Wet.refl _⟩
  | some j =>
    dsimp only
    rw [h.ew, h.ew]
    by_cases c2 : w.getD j 0 + 2 ≤ w.getD k 0
    · rw [if_pos c2, if_pos (by omega), if_pos c2]
      have hin := lowM_in cl
      have hair : m.getD j 0 = 0 := lowStep_air _ _ _ (fun i q => by cases q) cl
      exact shift_is h (j := j) (n := 1) hk (GT.around_lt hk (GT.beside_around hin)) (by omega) (beside_ne hk hin) (by have := h.w8 k; omega) (fun q => absurd hair q)
    · rw [if_neg c2, if_neg c2, ite_self]
      exact ⟨h, Wet.refl _⟩
theorem down_is {g s : Ground} {m w : List Nat} (h : Holds g s m w) {k : Nat} (hk : k < Vbwsar.size g) : Holds g (downS s k) m (downM g m w k) ∧ Wet s (downS s k) := by
  unfold downS downM
  rw [h.dim.below, h.ew]
  cases cb : Vbwsar.below g k with
  | none => exact ⟨h, Wet.refl _⟩
  | some j =>
    have hj := GT.below_lt hk cb
    dsimp only
    rw [room_is h]
    have rl := roomM_le (m := m) (h.w8 j)
    refine shift_is h hk (by omega) (by omega) (by omega) (by omega) (fun q => ?_)
    unfold roomM
    rw [if_neg q]
    omega
theorem runs_step {g s : Ground} {m w : List Nat} (h : Holds g s m w) {k : Nat} (hk : k < Vbwsar.size g) : Holds g (runsAt s k) m (runStep g m w k) ∧ Wet s (runsAt s k) := by
  rw [runsAt_eq, h.ew]
  unfold runStep
  dsimp only
  by_cases c : w.getD k 0 = 0
  · rw [if_pos c, if_neg (c := 0 < w.getD k 0) (by omega), if_neg (by omega)]
    exact ⟨h, Wet.refl _⟩
  · rw [if_neg c, if_pos (c := 0 < w.getD k 0) (by omega)]
    have a := down_is h hk
    have b := aside_is a.1 hk
    exact ⟨b.1, a.2.trans b.2⟩
theorem runs_to {g m : _} : ∀ (l : List Nat) {s : Ground} {w : List Nat}, (∀ k ∈ l, k < Vbwsar.size g) → Holds g s m w → Holds g (l.foldl runsAt s) m (l.foldl (runStep g m) w) ∧ Wet s (l.foldl runsAt s)
  | [], s, w, _, h => ⟨h, Wet.refl _⟩
  | k :: l, s, w, hl, h => by
    have a := runs_step h (hl k (List.mem_cons_self ..))
    have b := runs_to l (fun j q => hl j (List.mem_cons_of_mem _ q)) a.1
    exact ⟨b.1, a.2.trans b.2⟩
theorem runs_is {g s : Ground} {m w : List Nat} (h : Holds g s m w) : Holds g (Vbwsar.runs s) m (runM g m w) ∧ Wet s (Vbwsar.runs s) := by
  unfold Vbwsar.runs runM
  rw [h.dim.keys]
  exact runs_to _ (fun k q => List.mem_range.mp q) h
/-! ## A tick -/
/-- a ground as the specification keeps it, and as the program keeps it -/
structure Sim (g s : Ground) (m w : List Nat) : Prop extends Holds g s m w where
  five : ∀ k, m.getD k 0 ≤ 5
  lit : Lit s
theorem Holds.at {g s t : Ground} {m w : List Nat} (h : Holds g s m w) (x : t.sx = s.sx) (y : t.sy = s.sy) (z : t.sz = s.sz) (a : t.mat = s.mat) (b : t.water = s.water) : Holds g t m w :=
  ⟨⟨x.trans h.dim.x, y.trans h.dim.y, z.trans h.dim.z⟩, by rw [a]; exact h.wm, by rw [b]; exact h.ww, h.ml, h.wl, fun k => (by unfold matAt; rw [a]; exact h.em k), fun k => (by unfold waterAt; rw [b]; exact h.ew k), h.w8, h.dry, h.sz⟩
theorem ticked_is {g s : Ground} {m w : List Nat} (h : Sim g s m w) : Sim g (Vbwsar.ticked s) (tickM g m w).1 (tickM g m w).2 ∧ (Vbwsar.ticked s).ticks = s.ticks + 1 := by
  have F := falls_is h.toHolds h.five
  unfold Vbwsar.ticked tickM
  dsimp only
  generalize Vbwsar.falls s = x at F
  generalize fallM g m w = y at F
  have al : Alike s x.1 x.2 := ⟨F.holds.dim.x.trans h.dim.x.symm, F.holds.dim.y.trans h.dim.y.symm, F.holds.dim.z.trans h.dim.z.symm, fun k _ q => by rw [F.holds.em, h.em, F.alike k q]⟩
  have dn : Down s x.2 := by
    intro a b c c' ha hb hc q e
    rw [h.dim.key] at e ⊢
    rw [h.dim.x] at ha
    rw [h.dim.y] at hb
    rw [h.dim.z] at hc
    exact F.down a b c c' ha hb hc q e
  have lt : ∀ c ∈ x.2, c < Vbwsar.size s := fun c q => by rw [h.dim.size]; exact F.lt c q
  have big : Vbwsar.size s < 2 ^ 40 := by
    have := h.sz
    rw [h.dim.size]
    omega
  have A : Holds g (if x.2.isEmpty = true then x.1 else relit x.1 x.2) y.1 y.2 ∧ Lit (if x.2.isEmpty = true then x.1 else relit x.1 x.2) := by
    by_cases c : x.2.isEmpty = true
    · rw [if_pos c]
      have e : x.2 = [] := List.isEmpty_iff.mp c
      rw [e] at al
      exact ⟨F.holds, h.lit.of al.x al.y al.z (fun k => by rw [F.holds.em, h.em]; exact F.alike k (by rw [e]; exact List.not_mem_nil)) F.light⟩
    · rw [if_neg c]
      exact ⟨F.holds.relit, h.lit.relit al dn lt big F.light⟩
  generalize (if x.2.isEmpty = true then x.1 else relit x.1 x.2) = t at A
  have B := runs_is A.1
  refine ⟨{ B.1.at (t := { Vbwsar.runs t with ticks := s.ticks + 1 }) rfl rfl rfl rfl rfl with five := F.five, lit := ?_ }, rfl⟩
  exact A.2.of B.2.x B.2.y B.2.z (fun k => by unfold matAt; show (Vbwsae.get (Vbwsar.runs t).mat k).getD AIR = _; rw [B.2.mat]) B.2.light
theorem lists_eq {a b : List Nat} (l : a.length = b.length) (h : ∀ k, a.getD k 0 = b.getD k 0) : a = b := by
  refine List.ext_getElem l fun i h1 h2 => ?_
  have := h i
  rw [List.getD_eq_getElem?_getD, List.getD_eq_getElem?_getD, List.getElem?_eq_getElem h1, List.getElem?_eq_getElem h2] at this
  exact this
theorem quiet_is {g s : Ground} {m w : List Nat} (h : Sim g s m w) : Vbwsar.quiet s = (decide ((tickM g m w).1 = m) && decide ((tickM g m w).2 = w)) := by
  have t := (ticked_is h).1
  unfold Vbwsar.quiet
  dsimp only
  have e1 : Vbwsar.same (Vbwsar.ticked s).mat s.mat = decide ((tickM g m w).1 = m) := by
    rw [Bool.eq_iff_iff, decide_eq_true_iff, same_iff t.wm h.wm]
    constructor
    · intro q
      exact lists_eq (by rw [t.ml, h.ml]) fun k => by rw [← t.em, ← h.em]; exact q k
    · intro q k
      have a := t.em k
      rw [q, ← h.em] at a
      exact a
  have e2 : Vbwsar.same (Vbwsar.ticked s).water s.water = decide ((tickM g m w).2 = w) := by
    rw [Bool.eq_iff_iff, decide_eq_true_iff, same_iff t.ww h.ww]
    constructor
    · intro q
      exact lists_eq (by rw [t.wl, h.wl]) fun k => by rw [← t.ew, ← h.ew]; exact q k
    · intro q k
      have a := t.ew k
      rw [q, ← h.ew] at a
      exact a
  rw [e1, e2]
end Gr
set_option linter.all false
set_option maxHeartbeats 1000000
namespace Gr
open Vbwsar
open GT (WT at0 write_wt same_iff lightOf lightOf_is Alike Down relit_light)
/-! # Ticks, settling, and what the calls make of the ground -/
abbrev still (g : Ground) (m w : List Nat) : Bool := decide ((tickM g m w).1 = m) && decide ((tickM g m w).2 = w)
theorem still_eq {g : Ground} {m w : List Nat} (h : still g m w = true) : (tickM g m w).1 = m ∧ (tickM g m w).2 = w := by
  rw [Bool.and_eq_true, decide_eq_true_iff, decide_eq_true_iff] at h
  exact h
theorem still_ticks {g : Ground} {m w : List Nat} (q : still g m w = true) : ∀ (n : Nat) {s : Ground}, Sim g s m w → Sim g (ticksOf n s) m w ∧ (ticksOf n s).ticks = s.ticks + n
  | 0, s, h => ⟨h, rfl⟩
  | n + 1, s, h => by
    have t := ticked_is h
    rw [(still_eq q).1, (still_eq q).2] at t
    have ih := still_ticks q n t.1
    refine ⟨ih.1, ?_⟩
    show (ticksOf n (ticked s)).ticks = _
    rw [ih.2, t.2]
    omega
theorem ticks_is {g : Ground} : ∀ (n made : Nat) {s : Ground} {m w : List Nat}, Sim g s m w →
    Sim g (ticksOf n s) (goM g n made m w).1 (goM g n made m w).2.1 ∧ (ticksOf n s).ticks = s.ticks + n ∧ quiet (ticksOf n s) = (goM g n made m w).2.2.2
  | 0, made, s, m, w, h => ⟨h, rfl, quiet_is h⟩
  | n + 1, made, s, m, w, h => by
    unfold goM
    by_cases q : still g m w = true
    · rw [if_pos q]
      have a := still_ticks q (n + 1) h
      refine ⟨a.1, a.2, ?_⟩
      rw [quiet_is a.1]
      exact q
    · rw [if_neg q]
      have t := ticked_is h
      have ih := ticks_is n (made + 1) t.1
      refine ⟨ih.1, ?_, ih.2.2⟩
      show (ticksOf n (ticked s)).ticks = _
      rw [ih.2.1, t.2]
      omega
theorem settle_is {g : Ground} : ∀ (n made : Nat) {s : Ground} {m w : List Nat}, Sim g s m w →
    if (goM g n made m w).2.2.2 = true then ∃ t, untilQuiet n made s = some ((goM g n made m w).2.2.1, t) ∧ Sim g t (goM g n made m w).1 (goM g n made m w).2.1 ∧ t.ticks + made = s.ticks + (goM g n made m w).2.2.1
    else untilQuiet n made s = none
  | 0, made, s, m, w, h => by
    unfold goM untilQuiet
    rw [quiet_is h]
    by_cases q : still g m w = true
    · rw [if_pos q, if_pos q]
      exact ⟨s, rfl, h, rfl⟩
    · rw [if_neg q, if_neg q]
  | n + 1, made, s, m, w, h => by
    unfold goM untilQuiet
    rw [quiet_is h]
    by_cases q : still g m w = true
    · rw [if_pos q, if_pos q, if_pos rfl]
      exact ⟨s, rfl, h, rfl⟩
    · rw [if_neg q, if_neg q]
      have t := ticked_is h
      have ih := settle_is n (made + 1) t.1
      by_cases c : (goM g n (made + 1) (tickM g m w).1 (tickM g m w).2).2.2.2 = true
      · rw [if_pos c] at ih ⊢
        obtain ⟨u, a, b, e⟩ := ih
        exact ⟨u, a, b, by rw [t.2] at e; omega⟩
      · rw [if_neg c] at ih ⊢
        exact ih
theorem goM_most {g : Ground} : ∀ (n made : Nat) (m w : List Nat), (goM g n made m w).2.2.1 ≤ made + n
  | 0, made, m, w => Nat.le_refl _
  | n + 1, made, m, w => by
    unfold goM
    split
    · show made ≤ _
      omega
    · have := goM_most (g := g) n (made + 1) (tickM g m w).1 (tickM g m w).2
      omega
/-! ## place -/
theorem placed_is {g s : Ground} {m w : List Nat} (h : Sim g s m w) {k v : Nat} (hk : k < Vbwsar.size g) (hv : v ≤ 5) :
    Sim g (placed s k v) (m.set k v) (if v = 0 then w else w.set k 0) ∧ (placed s k v).ticks = s.ticks := by
  have hks : k < Vbwsar.size s := by rw [h.dim.size]; exact hk
  have D := down_from hks
  have big : Vbwsar.size s < 2 ^ 40 := by
    have := h.sz
    rw [h.dim.size]
    omega
  have a := em_set (v := v) h.wm h.em (by rw [h.ml]; exact hk) (h.big hk)
  have gm : ∀ j, (m.set k v).getD j 0 = if j = k then v else m.getD j 0 := fun j => by
    rw [getD_set]
    by_cases c : j = k
    · rw [if_pos c, if_pos ⟨c.symm, by rw [h.ml, c]; exact hk⟩]
    · rw [if_neg c, if_neg (fun q => c q.1.symm)]
  -- the ground with the material and the water told, the light as it was
  have K : ∀ t : Ground, t.sx = s.sx → t.sy = s.sy → t.sz = s.sz → t.mat = write s.mat k v → t.light = s.light → Lit (relit t (downFrom s s.sz k)) := fun t x y z em el => by
    refine h.lit.relit ⟨x, y, z, fun j _ q => ?_⟩ D.1 D.2.1 big el
    unfold matAt
    rw [em]
    refine (a.2 j).trans ?_
    rw [gm, if_neg (fun e => q (by rw [e]; exact D.2.2.1)), ← h.em]
    rfl
  have five : ∀ j, (m.set k v).getD j 0 ≤ 5 := set_most h.five hv
  unfold placed setMat
  dsimp only
  refine ⟨{ (?_ : Holds g (relit _ _) _ _) with five := five, lit := K _ rfl rfl rfl rfl rfl }, rfl⟩
  refine Holds.relit ?_
  by_cases c : v = 0
  · subst c
    rw [if_neg (by decide), if_pos rfl]
    refine ⟨⟨h.dim.x, h.dim.y, h.dim.z⟩, a.1, h.ww, by rw [List.length_set]; exact h.ml, h.wl, a.2, h.ew, h.w8, fun j q => ?_, h.sz⟩
    rw [gm] at q
    split at q
    · exact absurd rfl q
    · exact h.dry j q
  · have b := em_set (v := 0) h.ww h.ew (by rw [h.wl]; exact hk) (h.big hk)
    rw [if_pos (by unfold solid AIR; rw [bne_iff_ne]; exact c), if_neg c]
    refine ⟨⟨h.dim.x, h.dim.y, h.dim.z⟩, a.1, b.1, by rw [List.length_set]; exact h.ml, by rw [List.length_set]; exact h.wl, a.2, b.2, set_most h.w8 (Nat.zero_le _), fun j q => ?_, h.sz⟩
    rw [gm] at q
    rw [getD_set]
    split
    · rfl
    · rename_i n
      by_cases e : j = k
      · by_cases l : j < w.length
        · exact absurd ⟨e.symm, l⟩ n
        · exact getD_lt (by omega)
      · rw [if_neg e] at q
        exact h.dry j q
/-! ## pour and drain -/
theorem Sim.wet {g s t : Ground} {m w w' : List Nat} (h : Sim g s m w) (H : Holds g t m w') (x : Wet s t) : Sim g t m w' :=
  { H with five := h.five, lit := h.lit.of x.x x.y x.z (fun k => by unfold matAt; rw [x.mat]) x.light }
theorem pour_is {g s : Ground} {m w : List Nat} (h : Sim g s m w) {k n : Nat} (hk : k < Vbwsar.size g) (hn : n ≤ roomM m w k) :
    Sim g (Vbwsar.pour s k n) m (w.set k (w.getD k 0 + n)) ∧ (Vbwsar.pour s k n).ticks = s.ticks := by
  refine ⟨h.wet (t := Vbwsar.pour s k n) ?_ ⟨rfl, rfl, rfl, rfl, rfl, rfl⟩, rfl⟩
  unfold Vbwsar.pour
  rw [h.ew]
  have r := roomM_le (m := m) (h.w8 k)
  refine h.toHolds.water hk (by omega) (fun q => ?_)
  unfold roomM at hn
  rw [if_neg q] at hn
  rw [h.dry k q]
  omega
theorem drain_is {g s : Ground} {m w : List Nat} (h : Sim g s m w) {k n : Nat} (hk : k < Vbwsar.size g) (hn : n ≤ w.getD k 0) :
    Sim g (Vbwsar.drain s k n) m (w.set k (w.getD k 0 - n)) ∧ (Vbwsar.drain s k n).ticks = s.ticks := by
  refine ⟨h.wet (t := Vbwsar.drain s k n) ?_ ⟨rfl, rfl, rfl, rfl, rfl, rfl⟩, rfl⟩
  unfold Vbwsar.drain
  rw [h.ew]
  have := h.w8 k
  exact h.toHolds.water hk (by omega) (fun q => by have := h.dry k q; omega)
/-! ## a ground that begins -/
theorem Sim.self {g s : Ground} {m w : List Nat} (h : Sim g s m w) : Sim s s m w :=
  { dim := Dim.refl s, wm := h.wm, ww := h.ww, ml := by rw [h.ml, h.dim.size], wl := by rw [h.wl, h.dim.size], em := h.em, ew := h.ew, w8 := h.w8, dry := h.dry, sz := by rw [h.dim.size]; exact h.sz, five := h.five, lit := h.lit }
theorem Sim.at {g g' s : Ground} {m w : List Nat} (h : Sim g s m w) (d : Dim g g') : Sim g' s m w :=
  { dim := d.symm.trans h.dim, wm := h.wm, ww := h.ww, ml := by rw [h.ml, d.size], wl := by rw [h.wl, d.size], em := h.em, ew := h.ew, w8 := h.w8, dry := h.dry, sz := by rw [d.size]; exact h.sz, five := h.five, lit := h.lit }
/-- light told from nothing for a ground whose materials and water stand there -/
theorem begin_is {s : Ground} {m w : List Nat} (h : Holds s s m w) (five : ∀ k, m.getD k 0 ≤ 5) : Sim s { s with light := plainLight s } m w := by
  have big : Vbwsar.size s < 2 ^ 40 := by
    have := h.sz
    omega
  have P := GT.plain_light big
  refine { h.at (t := { s with light := plainLight s }) rfl rfl rfl rfl rfl with five := five, lit := ⟨P.1, fun k => ?_⟩ }
  rw [lightOf_alike (g := s) (h := { s with light := plainLight s }) ⟨rfl, rfl, rfl, fun _ _ _ => rfl⟩]
  exact P.2 k
theorem getD_rep {n k v : Nat} : (List.replicate n v).getD k 0 = if k < n then v else 0 := by
  rw [List.getD_eq_getElem?_getD, List.getElem?_replicate]
  split <;> rfl
theorem empty_is {s : Ground} (hm : s.mat = .none) (hw : s.water = .none) (sz : Vbwsar.size s ≤ 600) : Sim s { s with light := plainLight s } (List.replicate (Vbwsar.size s) 0) (List.replicate (Vbwsar.size s) 0) := by
  have z : ∀ k, (List.replicate (Vbwsar.size s) 0).getD k 0 = 0 := fun k => by
    rw [getD_rep]
    split <;> rfl
  refine begin_is ⟨Dim.refl s, by rw [hm]; exact WT.none, by rw [hw]; exact WT.none, List.length_replicate, List.length_replicate, fun k => ?_, fun k => ?_, fun k => ?_, fun k q => z k, sz⟩ (fun k => by rw [z]; omega)
  · unfold matAt
    rw [hm, z]
    rfl
  · unfold waterAt
    rw [hw, z]
    rfl
  · rw [z]
    omega
theorem start_is : Sim start start [] [] := by
  have big : Vbwsar.size start ≤ 600 := by decide
  refine { dim := Dim.refl _, wm := WT.none, ww := WT.none, ml := rfl, wl := rfl, em := fun k => rfl, ew := fun k => rfl, w8 := fun k => Nat.zero_le _, dry := fun k _ => rfl, sz := big, five := fun k => Nat.zero_le _, lit := ⟨WT.none, fun k => ?_⟩ }
  rw [(lightOf_is start).out k (Nat.zero_le _)]
  rfl
end Gr
set_option linter.all false
set_option maxHeartbeats 1000000
namespace Gr
open Vbwsar
open GT (WT at0 write_wt same_iff lightOf lightOf_is Alike Down relit_light)
/-! # Texts: the program's way of reading against the specification's -/
abbrev L2 := List (List Nat)
abbrev L3 := List (List (List Nat))
structure LS where
  ls : L3
  rs : L2
  r : List Nat
def layStep (s : LS) (c : Nat) : LS := if c ≠ 10 then ⟨s.ls, s.rs, s.r ++ [c]⟩ else if 0 < s.r.length then ⟨s.ls, s.rs ++ [s.r], []⟩ else ⟨s.ls ++ [s.rs], [], []⟩
def layEnd (s : LS) : Option L3 := if 0 < s.r.length ∨ 0 < s.rs.length then none else some s.ls
def layM (t : List Nat) : Option L3 := layEnd (t.foldl layStep ⟨[], [], []⟩)
def glue (a : List Nat) : L2 → L2
  | [] => [a]
  | l :: m => (a ++ l) :: m
def specLay (rs : L2) (r t : List Nat) : Option L3 := if (glue r (splitAt 10 t)).getLast? ≠ some [] then none else layersOf rs.reverse (glue r (splitAt 10 t)).dropLast
theorem split_ne (t : List Nat) : ∃ l m, splitAt 10 t = l :: m := by
  cases t with
  | nil => exact ⟨_, _, rfl⟩
  | cons c r =>
    unfold splitAt
    split
    · exact ⟨_, _, rfl⟩
    · split
      · exact ⟨_, _, rfl⟩
      · exact ⟨_, _, rfl⟩
theorem specLay_sign {rs : L2} {r t : List Nat} {c : Nat} (h : c ≠ 10) : specLay rs r (c :: t) = specLay rs (r ++ [c]) t := by
  obtain ⟨l, m, e⟩ := split_ne t
  have e2 : splitAt 10 (c :: t) = (c :: l) :: m := by
    unfold splitAt
    rw [e]
    dsimp only
    rw [if_neg h]
  unfold specLay
  rw [e2, e]
  have e3 : glue r ((c :: l) :: m) = glue (r ++ [c]) (l :: m) := by
    unfold glue
    simp
  rw [e3]
theorem specLay_end {rs : L2} {r t : List Nat} : specLay rs r (10 :: t) = if (splitAt 10 t).getLast? ≠ some [] then none else layersOf rs.reverse (r :: (splitAt 10 t).dropLast) := by
  obtain ⟨l, m, e⟩ := split_ne t
  have e2 : splitAt 10 (10 :: t) = [] :: (l :: m) := by
    conv => lhs; unfold splitAt
    rw [e]
    dsimp only
    rw [if_pos rfl]
  unfold specLay
  rw [e2, e]
  show (if (((r ++ []) :: l :: m : L2)).getLast? ≠ some [] then none else layersOf rs.reverse ((r ++ []) :: l :: m).dropLast) = _
  rw [List.append_nil, List.getLast?_cons_cons, List.dropLast_cons₂]
theorem glue_nil (t : List Nat) : glue [] (splitAt 10 t) = splitAt 10 t := by
  obtain ⟨l, m, e⟩ := split_ne t
  rw [e]
  rfl
theorem layersOf_row (now : L2) (r : List Nat) (l : L2) : layersOf now (r :: l) = if r.isEmpty = true then (if now.isEmpty = true then none else (layersOf [] l).map fun m => now.reverse :: m) else layersOf (r :: now) l := by
  cases now <;> (conv => lhs; unfold layersOf)
theorem layersOf_nil (now : L2) : layersOf now [] = if now = [] then some [] else none := by
  cases now with
  | nil => rfl
  | cons a b => rfl
theorem layStep_sign {s : LS} {c : Nat} (h : c ≠ 10) : layStep s c = ⟨s.ls, s.rs, s.r ++ [c]⟩ := if_pos h
theorem layStep_row {s : LS} (h : 0 < s.r.length) : layStep s 10 = ⟨s.ls, s.rs ++ [s.r], []⟩ := by
  unfold layStep
  rw [if_neg (fun q => q rfl), if_pos h]
theorem layStep_lay {s : LS} (h : ¬ 0 < s.r.length) : layStep s 10 = ⟨s.ls ++ [s.rs], [], []⟩ := by
  unfold layStep
  rw [if_neg (fun q => q rfl), if_neg h]
def full (l : L3) : Prop := ∀ x ∈ l, x ≠ []
theorem lay_to : ∀ (t : List Nat) (s : LS), match layEnd (t.foldl layStep s) with
    | none => specLay s.rs s.r t = none
    | some L => ∃ L', L = s.ls ++ L' ∧ (full L' → specLay s.rs s.r t = some L') ∧ (¬ full L' → specLay s.rs s.r t = none)
  | [], s => by
    have e : specLay s.rs s.r [] = if s.r ≠ [] then none else layersOf s.rs.reverse [] := by
      unfold specLay
      show (if ([s.r ++ []] : L2).getLast? ≠ some [] then none else layersOf s.rs.reverse [s.r ++ []].dropLast) = _
      rw [List.append_nil]
      by_cases c : s.r = []
      · rw [c]
        rfl
      · rw [if_pos c, if_pos (by rw [List.getLast?_singleton]; intro q; exact c (Option.some.inj q))]
    rw [e, List.foldl_nil, layersOf_nil]
    unfold layEnd
    by_cases c : s.r = []
    · rw [if_neg (c := s.r ≠ []) (fun q => q c)]
      by_cases d : s.rs = []
      · rw [if_neg (c := 0 < s.r.length ∨ 0 < s.rs.length) (by rw [c, d]; simp), if_pos (c := s.rs.reverse = []) (by rw [d]; rfl)]
        exact ⟨[], (List.append_nil _).symm, fun _ => rfl, fun q => absurd (fun x h => by cases h) q⟩
      · rw [if_pos (Or.inr (List.length_pos_iff.mpr d)), if_neg (c := s.rs.reverse = []) (fun q => d (List.reverse_eq_nil_iff.mp q))]
    · rw [if_pos c, if_pos (Or.inl (List.length_pos_iff.mpr c))]
  | c :: t, s => by
    rw [List.foldl_cons]
    have ih := lay_to t (layStep s c)
    by_cases h : c ≠ 10
    · rw [specLay_sign h]
      rw [layStep_sign h] at ih ⊢
      exact ih
    · have h : c = 10 := Decidable.not_not.mp h
      subst h
      rw [specLay_end, layersOf_row]
      by_cases d : 0 < s.r.length
      · rw [layStep_row d] at ih ⊢
        have e : specLay (s.rs ++ [s.r]) [] t = if (splitAt 10 t).getLast? ≠ some [] then none else layersOf (s.r :: s.rs.reverse) (splitAt 10 t).dropLast := by
          unfold specLay
          rw [glue_nil, List.reverse_append]
          rfl
        rw [if_neg (c := s.r.isEmpty = true) (fun q => by rw [List.isEmpty_iff] at q; rw [q] at d; cases d), ← e]
        exact ih
      · rw [layStep_lay d] at ih ⊢
        have d : s.r = [] := List.length_eq_zero_iff.mp (by omega)
        have e : (if (splitAt 10 t).getLast? ≠ some [] then none else (if s.r.isEmpty = true then (if s.rs.reverse.isEmpty = true then none else (layersOf [] (splitAt 10 t).dropLast).map fun m => s.rs.reverse.reverse :: m) else layersOf (s.r :: s.rs.reverse) (splitAt 10 t).dropLast)) = if s.rs = [] then none else (specLay [] [] t).map fun m => s.rs :: m := by
          unfold specLay
          rw [glue_nil, d, if_pos (c := ([] : List Nat).isEmpty = true) rfl, List.reverse_reverse]
          by_cases f : s.rs = []
          · rw [if_pos f, f]
            simp
          · rw [if_neg f, if_neg (c := s.rs.reverse.isEmpty = true) (fun q => f (by rw [List.isEmpty_iff] at q; exact List.reverse_eq_nil_iff.mp q))]
            split
            · rfl
            · rfl
        rw [e]
        dsimp only at ih
        cases q : layEnd (t.foldl layStep ⟨s.ls ++ [s.rs], [], []⟩) with
        | none =>
          rw [q] at ih
          dsimp only at ih
          dsimp only
          rw [ih]
          split <;> rfl
        | some L =>
          rw [q] at ih
          obtain ⟨L', e1, e2, e3⟩ := ih
          refine ⟨s.rs :: L', by rw [e1]; simp, fun f => ?_, fun f => ?_⟩
          · rw [if_neg (f _ (List.mem_cons_self ..)), e2 (fun x h => f x (List.mem_cons_of_mem _ h))]
            rfl
          · by_cases g : s.rs = []
            · rw [if_pos g]
            · rw [if_neg g, e3 (fun z => f fun x h => by
                rcases List.mem_cons.mp h with i | i
                · rw [i]
                  exact g
                · exact z x i)]
              rfl
/-- whether there are layers and rows, as many in each -/
def evenM (L : L3) : Bool := !(L.length == 0) && !((L.headD []).length == 0) && L.all fun l => l.length == (L.headD []).length && l.all fun r => r.length == ((L.headD []).headD []).length
theorem even_full {L : L3} (h : evenM L = true) : full L := by
  unfold evenM at h
  rw [Bool.and_eq_true, Bool.and_eq_true, List.all_eq_true] at h
  obtain ⟨⟨_, h2⟩, h3⟩ := h
  intro x hx e
  have := h3 x hx
  rw [Bool.and_eq_true, beq_iff_eq, e] at this
  rw [Bool.not_eq_true', beq_eq_false_iff_ne] at h2
  exact h2 this.1.symm
/-- the bytes that are no row's end stand in the layers in order; no row is empty -/
structure LayInv (s : LS) (t : List Nat) : Prop where
  bs : s.ls.flatten.flatten ++ (s.rs.flatten ++ s.r) = t.filter (fun c => c != 10)
  ne : ∀ l ∈ s.ls, ∀ r ∈ l, r ≠ []
  ner : ∀ r ∈ s.rs, r ≠ []
theorem lay_inv : ∀ (t : List Nat) (a : List Nat) (s : LS), LayInv s a → LayInv (t.foldl layStep s) (a ++ t)
  | [], a, s, h => by
    rw [List.append_nil]
    exact h
  | c :: t, a, s, h => by
    have e : a ++ c :: t = (a ++ [c]) ++ t := by simp
    rw [e, List.foldl_cons]
    refine lay_inv t _ _ ?_
    unfold layStep
    by_cases d : c ≠ 10
    · rw [if_pos d]
      refine ⟨?_, h.ne, h.ner⟩
      rw [List.filter_append, ← h.bs]
      have : ([c].filter fun c => c != 10) = [c] := by simp [d]
      rw [this]
      simp
    · rw [if_neg d]
      have d : c = 10 := Decidable.not_not.mp d
      have f : ((a ++ [c]).filter fun c => c != 10) = a.filter fun c => c != 10 := by
        rw [List.filter_append, d]
        simp
      by_cases q : 0 < s.r.length
      · rw [if_pos q]
        refine ⟨?_, h.ne, fun r z => ?_⟩
        · rw [f, ← h.bs]
          simp
        · rcases List.mem_append.mp z with i | i
          · exact h.ner r i
          · rw [List.mem_singleton.mp i]
            exact List.length_pos_iff.mp q
      · rw [if_neg q]
        have e : s.r = [] := List.length_eq_zero_iff.mp (by omega)
        refine ⟨?_, fun l z r y => ?_, fun r z => by cases z⟩
        · rw [f, ← h.bs, e]
          simp
        · rcases List.mem_append.mp z with i | i
          · exact h.ne l i r y
          · rw [List.mem_singleton.mp i] at y
            exact h.ner r y
theorem lay_bytes {t : List Nat} {L : L3} (h : layM t = some L) : L.flatten.flatten = t.filter (fun c => c != 10) ∧ ∀ l ∈ L, ∀ r ∈ l, r ≠ [] := by
  have a := lay_inv t [] ⟨[], [], []⟩ ⟨rfl, (fun l z => by cases z), (fun l z => by cases z)⟩
  rw [List.nil_append] at a
  unfold layM layEnd at h
  split at h
  · cases h
  · rename_i c
    have e := Option.some.inj h
    rw [← e]
    refine ⟨?_, a.ne⟩
    rw [← a.bs]
    have e1 : (t.foldl layStep ⟨[], [], []⟩).r = [] := List.length_eq_zero_iff.mp (by omega)
    have e2 : (t.foldl layStep ⟨[], [], []⟩).rs = [] := List.length_eq_zero_iff.mp (by omega)
    rw [e1, e2]
    simp
theorem len_flat {L : L2} {n : Nat} (h : ∀ l ∈ L, l.length = n) : L.flatten.length = n * L.length := by
  induction L with
  | nil => rfl
  | cons a L ih =>
    rw [List.flatten_cons, List.length_append, h a (List.mem_cons_self ..), ih (fun l q => h l (List.mem_cons_of_mem _ q)), List.length_cons, Nat.mul_add, Nat.mul_one, Nat.add_comm]
theorem even_len {L : L3} (h : evenM L = true) : L.flatten.flatten.length = ((L.headD []).headD []).length * ((L.headD []).length * L.length) := by
  unfold evenM at h
  rw [Bool.and_eq_true, List.all_eq_true] at h
  obtain ⟨h0, h3⟩ := h
  clear h0
  have a : ∀ l ∈ L.flatten, l.length = ((L.headD []).headD []).length := by
    intro l q
    obtain ⟨x, hx, hl⟩ := List.mem_flatten.mp q
    have z := h3 x hx
    rw [Bool.and_eq_true, List.all_eq_true] at z
    exact beq_iff_eq.mp (z.2 l hl)
  have b : L.flatten.length = (L.headD []).length * L.length := by
    clear a
    generalize (L.headD []).length = n at h3
    generalize ((L.headD []).headD []).length = k at h3
    induction L with
    | nil => rfl
    | cons x L ih =>
      have z := h3 x (List.mem_cons_self ..)
      rw [Bool.and_eq_true] at z
      rw [List.flatten_cons, List.length_append, beq_iff_eq.mp z.1, ih (fun l q => h3 l (List.mem_cons_of_mem _ q)), List.length_cons, Nat.mul_add, Nat.mul_one, Nat.add_comm]
  rw [len_flat a, b]

/-! ## what a byte tells -/
def matOf (c : Nat) : Nat := ((meant c).getD (0, 0)).1
def watOf (c : Nat) : Nat := ((meant c).getD (0, 0)).2
theorem meant_some {c : Nat} : (meant c).isSome = (decide (49 ≤ c ∧ c ≤ 56) || decide (c ∈ SIGNS)) := by
  unfold meant
  by_cases h : 49 ≤ c ∧ c ≤ 56
  · rw [if_pos h, decide_eq_true h]
    rfl
  · rw [if_neg h, decide_eq_false h]
    dsimp only
    have e : SIGNS.findIdx (fun x => x == c) < SIGNS.length ↔ c ∈ SIGNS := by
      rw [List.findIdx_lt_length]
      constructor
      · rintro ⟨x, a, b⟩
        rw [← beq_iff_eq.mp b]
        exact a
      · intro a
        exact ⟨c, a, beq_self_eq_true c⟩
    by_cases g : c ∈ SIGNS
    · rw [if_pos (e.mpr g), decide_eq_true g]
      rfl
    · rw [if_neg (fun q => g (e.mp q)), decide_eq_false g]
      rfl
theorem meant_is {c : Nat} {p : Nat × Nat} (h : meant c = some p) : p.1 ≤ 5 ∧ p.2 ≤ 8 ∧ (p.1 ≠ 0 → p.2 = 0) := by
  unfold meant at h
  by_cases q : 49 ≤ c ∧ c ≤ 56
  · rw [if_pos q] at h
    rw [← Option.some.inj h]
    unfold AIR
    refine ⟨by omega, by show c - 48 ≤ 8; omega, fun x => absurd rfl x⟩
  · rw [if_neg q] at h
    dsimp only at h
    split at h
    · rename_i l
      rw [← Option.some.inj h]
      have : SIGNS.length = 6 := rfl
      exact ⟨by dsimp only; omega, Nat.zero_le _, fun _ => rfl⟩
    · cases h
theorem of_most (c : Nat) : matOf c ≤ 5 ∧ watOf c ≤ 8 ∧ (matOf c ≠ 0 → watOf c = 0) := by
  unfold matOf watOf
  cases h : meant c with
  | none => exact ⟨Nat.zero_le _, Nat.zero_le _, fun _ => rfl⟩
  | some p => exact meant_is h
/-- what the specification writes for a byte -/
def put1 (g : Ground) (x : Nat × Nat) : Ground := match meant x.1 with
  | none => g
  | some y => { g with mat := write g.mat x.2 y.1, water := write g.water x.2 y.2 }
/-- sides, light and ticks stay -/
structure Frame (s t : Ground) : Prop where
  x : t.sx = s.sx
  y : t.sy = s.sy
  z : t.sz = s.sz
  light : t.light = s.light
  ticks : t.ticks = s.ticks
theorem puts_is : ∀ (bs : List Nat) (n : Nat) (g : Ground), WT g.mat → WT g.water → n + bs.length ≤ 600 → (∀ c ∈ bs, (meant c).isSome = true) →
    Frame g ((bs.zipIdx n).foldl put1 g) ∧ WT ((bs.zipIdx n).foldl put1 g).mat ∧ WT ((bs.zipIdx n).foldl put1 g).water ∧
    (∀ k, at0 ((bs.zipIdx n).foldl put1 g).mat k = if n ≤ k ∧ k < n + bs.length then (bs.map matOf).getD (k - n) 0 else at0 g.mat k) ∧
    ∀ k, at0 ((bs.zipIdx n).foldl put1 g).water k = if n ≤ k ∧ k < n + bs.length then (bs.map watOf).getD (k - n) 0 else at0 g.water k
  | [], n, g, wm, ww, hl, hs => ⟨⟨rfl, rfl, rfl, rfl, rfl⟩, wm, ww, fun k => by
      rw [if_neg (by rw [List.length_nil]; omega)]
      rfl, fun k => by
      rw [if_neg (by rw [List.length_nil]; omega)]
      rfl⟩
  | c :: bs, n, g, wm, ww, hl, hs => by
    rw [List.zipIdx_cons, List.foldl_cons]
    rw [List.length_cons] at hl
    obtain ⟨p, e⟩ := Option.isSome_iff_exists.mp (hs c (List.mem_cons_self ..))
    have e1 : put1 g (c, n) = { g with mat := write g.mat n p.1, water := write g.water n p.2 } := by
      unfold put1
      rw [e]
    have a := write_wt (v := p.1) wm (k := n) (by omega)
    have b := write_wt (v := p.2) ww (k := n) (by omega)
    have ih := puts_is bs (n + 1) (put1 g (c, n)) (by rw [e1]; exact a.1) (by rw [e1]; exact b.1) (by omega) fun x q => hs x (List.mem_cons_of_mem _ q)
    have pm : p.1 = matOf c := by
      unfold matOf
      rw [e]
      rfl
    have pw : p.2 = watOf c := by
      unfold watOf
      rw [e]
      rfl
    refine ⟨?_, ih.2.1, ih.2.2.1, fun k => ?_, fun k => ?_⟩
    · have z := ih.1
      rw [e1] at z ⊢
      exact ⟨z.x, z.y, z.z, z.light, z.ticks⟩
    · rw [ih.2.2.2.1 k, e1]
      show (if n + 1 ≤ k ∧ k < n + 1 + bs.length then _ else at0 (write g.mat n p.1) k) = _
      rw [a.2 k, List.length_cons, List.map_cons]
      by_cases h1 : k = n
      · rw [if_neg (by omega), if_pos h1, if_pos (by omega), h1, Nat.sub_self, pm]
        rfl
      · by_cases h2 : n + 1 ≤ k ∧ k < n + 1 + bs.length
        · rw [if_pos h2, if_pos (by omega)]
          obtain ⟨d, rfl⟩ : ∃ d, k = n + 1 + d := ⟨k - (n + 1), by omega⟩
          rw [Nat.add_sub_cancel_left, show n + 1 + d - n = d + 1 by omega]
          rfl
        · rw [if_neg h2, if_neg h1, if_neg (by omega)]
    · rw [ih.2.2.2.2 k, e1]
      show (if n + 1 ≤ k ∧ k < n + 1 + bs.length then _ else at0 (write g.water n p.2) k) = _
      rw [b.2 k, List.length_cons, List.map_cons]
      by_cases h1 : k = n
      · rw [if_neg (by omega), if_pos h1, if_pos (by omega), h1, Nat.sub_self, pw]
        rfl
      · by_cases h2 : n + 1 ≤ k ∧ k < n + 1 + bs.length
        · rw [if_pos h2, if_pos (by omega)]
          obtain ⟨d, rfl⟩ : ∃ d, k = n + 1 + d := ⟨k - (n + 1), by omega⟩
          rw [Nat.add_sub_cancel_left, show n + 1 + d - n = d + 1 by omega]
          rfl
        · rw [if_neg h2, if_neg h1, if_neg (by omega)]
end Gr
set_option linter.all false
set_option maxHeartbeats 1000000
namespace Gr
open Vbwsar
open GT (WT at0 write_wt same_iff lightOf lightOf_is Alike Down relit_light)
/-! # A text read -/
def sidesM (L : L3) : Nat × Nat × Nat := (((L.headD []).headD []).length, (L.headD []).length, L.length)
def fitsN (x y z : Nat) : Bool := decide (1 ≤ x ∧ x ≤ 12 ∧ 1 ≤ y ∧ y ≤ 12 ∧ 1 ≤ z ∧ z ≤ 12 ∧ x * y * z ≤ 600)
def wrongM (t : List Nat) : Nat := match layM t with
  | none => 1
  | some L => if evenM L = false then 1 else if fitsN (sidesM L).1 (sidesM L).2.1 (sidesM L).2.2 = false then 2 else if (t.all fun c => c == 10 || (meant c).isSome) = true then 0 else 3
theorem specLay_is (t : List Nat) : specLay [] [] t = match layM t with | none => none | some L => if evenM L = true then some L else specLay [] [] t := by
  have h := lay_to t ⟨[], [], []⟩
  unfold layM
  cases e : layEnd (t.foldl layStep ⟨[], [], []⟩) with
  | none =>
    rw [e] at h
    exact h
  | some L =>
    rw [e] at h
    dsimp only
    by_cases c : evenM L = true
    · rw [if_pos c]
      obtain ⟨L', e1, e2, _⟩ := h
      rw [List.nil_append] at e1
      subst e1
      exact e2 (even_full c)
    · rw [if_neg c]
/-- how the specification goes on with layers -/
def specRead (m : L3) : Nat ⊕ Ground :=
  let sy := (m.headD []).length
  let sx := ((m.headD []).headD []).length
  if m.isEmpty = true ∨ (m.all fun l => l.length == sy && l.all fun r => r.length == sx) = false then .inl 1
  else if SIDE < sx ∨ SIDE < sy ∨ SIDE < m.length ∨ CELLS < sx * (sy * m.length) then .inl 2
  else
    let bs := m.flatMap fun l => l.flatMap fun r => r
    if (bs.all fun c => (meant c).isSome) = false then .inl 3 else
    let g := (bs.zipIdx).foldl put1 { sx := sx, sy := sy, sz := m.length }
    .inr { g with light := plainLight g }
theorem readText_eq (t : List Nat) : readText t = match specLay [] [] t with | none => .inl 1 | some m => specRead m := by
  unfold readText specLay
  rw [glue_nil]
  dsimp only
  split
  · rfl
  · rfl
theorem full_of {rs : L2} {r t : List Nat} {m : L3} (h : specLay rs r t = some m) : ∀ L, layEnd (t.foldl layStep ⟨[], rs, r⟩) = some L → L = m ∧ full m := by
  intro L e
  have a := lay_to t ⟨[], rs, r⟩
  rw [e] at a
  obtain ⟨L', e1, e2, e3⟩ := a
  rw [List.nil_append] at e1
  subst e1
  by_cases f : full L
  · have := e2 f
    rw [h] at this
    rw [Option.some.inj this]
    exact ⟨rfl, f⟩
  · have := e3 f
    rw [h] at this
    cases this
theorem even_eq {m : L3} (f : full m) : evenM m = !(m.isEmpty || !(m.all fun l => l.length == (m.headD []).length && l.all fun r => r.length == ((m.headD []).headD []).length)) := by
  unfold evenM
  cases m with
  | nil => rfl
  | cons a b =>
    have h : a ≠ [] := f a (List.mem_cons_self ..)
    have e : (((a :: b : L3).headD []).length == 0) = false := by
      show (a.length == 0) = false
      rw [beq_eq_false_iff_ne]
      intro q
      exact h (List.length_eq_zero_iff.mp q)
    rw [e]
    simp
def specRest (m : L3) : Nat ⊕ Ground :=
  if SIDE < (sidesM m).1 ∨ SIDE < (sidesM m).2.1 ∨ SIDE < (sidesM m).2.2 ∨ CELLS < (sidesM m).1 * ((sidesM m).2.1 * (sidesM m).2.2) then .inl 2
  else if (m.flatten.flatten.all fun c => (meant c).isSome) = false then .inl 3 else
    .inr { (m.flatten.flatten.zipIdx).foldl put1 { sx := (sidesM m).1, sy := (sidesM m).2.1, sz := (sidesM m).2.2 } with light := plainLight ((m.flatten.flatten.zipIdx).foldl put1 { sx := (sidesM m).1, sy := (sidesM m).2.1, sz := (sidesM m).2.2 }) }
theorem flatMap_id {m : L3} : (m.flatMap fun l => l.flatMap fun r => r) = m.flatten.flatten := by
  induction m with
  | nil => rfl
  | cons a b ih =>
    rw [List.flatMap_cons, ih, List.flatten_cons, List.flatten_append]
    congr 1
    rw [List.flatMap_def, List.map_id']
theorem specRead_eq {m : L3} (f : full m) : specRead m = if evenM m = false then .inl 1 else specRest m := by
  unfold specRead specRest
  dsimp only
  rw [flatMap_id, even_eq f]
  refine ite_congr (propext ?_) (fun _ => rfl) (fun _ => rfl)
  cases m.isEmpty with
  | true => simp
  | false =>
    cases (m.all fun l => l.length == (m.headD []).length && l.all fun r => r.length == ((m.headD []).headD []).length) with
    | true => simp
    | false => simp
theorem fits_is {x y z : Nat} (hx : 1 ≤ x) (hy : 1 ≤ y) (hz : 1 ≤ z) : fitsN x y z = false ↔ (SIDE < x ∨ SIDE < y ∨ SIDE < z ∨ CELLS < x * (y * z)) := by
  unfold fitsN SIDE CELLS
  rw [decide_eq_false_iff_not, Nat.mul_assoc]
  omega
/-- what a text tells with which nothing is wrong -/
structure Told (t : List Nat) (L : L3) (h : Ground) : Prop where
  lay : layM t = some L
  x : h.sx = (sidesM L).1
  y : h.sy = (sidesM L).2.1
  z : h.sz = (sidesM L).2.2
  sim : Sim h h ((t.filter fun c => c != 10).map matOf) ((t.filter fun c => c != 10).map watOf)
  ticks : h.ticks = 0
theorem getD_map {f : Nat → Nat} {l : List Nat} {k : Nat} (h : k < l.length) : (l.map f).getD k 0 = f (l.getD k 0) := by
  rw [List.getD_eq_getElem?_getD, List.getElem?_map, List.getD_eq_getElem?_getD, List.getElem?_eq_getElem h]
  rfl
theorem read_is (t : List Nat) : (wrongM t = 0 ∧ ∃ L h, readText t = .inr h ∧ Told t L h) ∨ (0 < wrongM t ∧ readText t = .inl (wrongM t)) := by
  rw [readText_eq]
  unfold wrongM
  cases e : layM t with
  | none =>
    have s := specLay_is t
    rw [e] at s
    rw [s]
    exact .inr ⟨Nat.one_pos, rfl⟩
  | some L =>
    dsimp only
    by_cases c : evenM L = false
    · rw [if_pos c]
      refine .inr ⟨Nat.one_pos, ?_⟩
      cases s : specLay [] [] t with
      | none => rfl
      | some m =>
        obtain ⟨e2, f⟩ := full_of s L e
        subst e2
        dsimp only
        rw [specRead_eq f, if_pos c]
    · rw [if_neg c]
      have c : evenM L = true := by simpa using c
      have s := specLay_is t
      rw [e] at s
      dsimp only at s
      rw [if_pos c] at s
      rw [s]
      dsimp only
      have by_ := lay_bytes e
      have len := even_len c
      have ne0 : 1 ≤ (sidesM L).2.2 ∧ 1 ≤ (sidesM L).2.1 ∧ 1 ≤ (sidesM L).1 := by
        cases L with
        | nil => simp [evenM] at c
        | cons a b =>
          have ha : a ≠ [] := even_full c a (List.mem_cons_self ..)
          cases a with
          | nil => exact absurd rfl ha
          | cons r q =>
            have hr : r ≠ [] := by_.2 _ (List.mem_cons_self ..) r (List.mem_cons_self ..)
            exact ⟨Nat.succ_le_succ (Nat.zero_le _), Nat.succ_le_succ (Nat.zero_le _), List.length_pos_iff.mpr hr⟩
      have fi := fits_is ne0.2.2 ne0.2.1 ne0.1
      rw [specRead_eq (even_full c), if_neg (c := evenM L = false) (by rw [c]; decide)]
      unfold specRest
      by_cases f : fitsN (sidesM L).1 (sidesM L).2.1 (sidesM L).2.2 = false
      · rw [if_pos f, if_pos (fi.mp f)]
        exact .inr ⟨by omega, rfl⟩
      · rw [if_neg f, if_neg (fun q => f (fi.mpr q))]
        rw [by_.1]
        have al : (t.all fun c => c == 10 || (meant c).isSome) = ((t.filter fun c => c != 10).all fun c => (meant c).isSome) := by
          rw [List.all_filter]
          congr 1
          funext c
          cases h : c == 10 with
          | true => simp [bne, h]
          | false => simp [bne, h]
        rw [al]
        by_cases d : ((t.filter fun c => c != 10).all fun c => (meant c).isSome) = true
        · rw [if_pos d, if_neg (by rw [d]; decide)]
          have d' : ∀ c ∈ t.filter (fun c => c != 10), (meant c).isSome = true := List.all_eq_true.mp d
          rw [by_.1] at len
          have sz6 : (t.filter fun c => c != 10).length ≤ 600 := by
            rw [len]
            have : ¬ (CELLS < _ ) := fun q => f (fi.mpr (.inr (.inr (.inr q))))
            have h6 : CELLS = 600 := rfl
            unfold sidesM at this
            dsimp only at this
            omega
          have P := puts_is (t.filter fun c => c != 10) 0 { sx := (sidesM L).1, sy := (sidesM L).2.1, sz := (sidesM L).2.2 } WT.none WT.none (by omega) d'
          generalize ((t.filter fun c => c != 10).zipIdx).foldl put1 { sx := (sidesM L).1, sy := (sidesM L).2.1, sz := (sidesM L).2.2 } = h at P
          refine .inl ⟨rfl, L, _, rfl, ⟨e, P.1.x, P.1.y, P.1.z, ?_, P.1.ticks⟩⟩
          have lenS : Vbwsar.size h = (t.filter fun c => c != 10).length := by
            unfold Vbwsar.size
            rw [P.1.x, P.1.y, P.1.z, len]
            rfl
          have am : ∀ k, ((t.filter fun c => c != 10).map matOf).getD k 0 ≤ 5 ∧ ((t.filter fun c => c != 10).map watOf).getD k 0 ≤ 8 ∧ (((t.filter fun c => c != 10).map matOf).getD k 0 ≠ 0 → ((t.filter fun c => c != 10).map watOf).getD k 0 = 0) := fun k => by
            by_cases q : k < (t.filter fun c => c != 10).length
            · rw [getD_map q, getD_map q]
              exact of_most _
            · rw [getD_lt (by rw [List.length_map]; omega), getD_lt (by rw [List.length_map]; omega)]
              exact ⟨Nat.zero_le _, Nat.zero_le _, fun _ => rfl⟩
          have at_ : ∀ (f : Nat → Nat) (u : Vbwsae.T Nat), (∀ k, at0 u k = if 0 ≤ k ∧ k < 0 + (t.filter fun c => c != 10).length then ((t.filter fun c => c != 10).map f).getD (k - 0) 0 else at0 .none k) → ∀ k, at0 u k = ((t.filter fun c => c != 10).map f).getD k 0 := fun f u q k => by
            rw [q k]
            by_cases l : k < (t.filter fun c => c != 10).length
            · rw [if_pos (by omega), Nat.sub_zero]
            · rw [if_neg (by omega), getD_lt (l := (t.filter fun c => c != 10).map f) (by rw [List.length_map]; omega)]
              rfl
          refine (begin_is (s := h) ⟨Dim.refl h, P.2.1, P.2.2.1, by rw [List.length_map, lenS], by rw [List.length_map, lenS], at_ matOf _ P.2.2.2.1, at_ watOf _ P.2.2.2.2, fun k => (am k).2.1, fun k q => (am k).2.2 q, by rw [lenS]; exact sz6⟩ fun k => (am k).1).self
        · rw [if_neg d, if_pos (by simpa using d)]
          exact .inr ⟨by omega, rfl⟩
end Gr
set_option Elab.async false
set_option linter.all false
set_option maxRecDepth 100000
set_option maxHeartbeats 4000000
namespace Gr
open PySem PySem.Spec PyProof.Rows L2
open Vbwsar (Ground)
/-! # Texts -/
/-- at a stands a list of rows -/
def Rows (H : Hp) (a : Addr) (rs : List (List Nat)) : Prop := ∃ as : List Addr, H a = some (.lst (as.map V.ref)) ∧ as.length = rs.length ∧ ∀ i, i < rs.length → IL H (as.getD i 0) (rs.getD i [])
def Lays (H : Hp) (a : Addr) (ls : List (List (List Nat))) : Prop := ∃ as : List Addr, H a = some (.lst (as.map V.ref)) ∧ as.length = ls.length ∧ ∀ i, i < ls.length → Rows H (as.getD i 0) (ls.getD i [])
theorem Rows.same {H H' : Hp} {a : Addr} {rs : List (List Nat)} (h : Rows H a rs) (s : Same H H') : Rows H' a rs := by
  obtain ⟨as, h1, h2, h3⟩ := h
  exact ⟨as, s _ _ h1, h2, fun i hi => s _ _ (h3 i hi)⟩
theorem Lays.same {H H' : Hp} {a : Addr} {ls : List (List (List Nat))} (h : Lays H a ls) (s : Same H H') : Lays H' a ls := by
  obtain ⟨as, h1, h2, h3⟩ := h
  exact ⟨as, s _ _ h1, h2, fun i hi => (h3 i hi).same s⟩
theorem getD_snocG {A : Type} {l : List A} {a d : A} {k : Nat} : (l ++ [a]).getD k d = if k = l.length then a else l.getD k d := by
  rw [List.getD_eq_getElem?_getD, List.getD_eq_getElem?_getD]
  by_cases c : k = l.length
  · subst c
    rw [if_pos rfl, List.getElem?_append_right (Nat.le_refl _), Nat.sub_self]
    rfl
  · rw [if_neg c]
    by_cases q : k < l.length
    · rw [List.getElem?_append_left q]
    · rw [List.getElem?_eq_none (by rw [List.length_append]; show l.length + 1 ≤ k; omega), List.getElem?_eq_none (by omega)]
theorem refs_inj : ∀ as bs : List Addr, as.map V.ref = bs.map V.ref → as = bs
  | [], [], _ => rfl
  | [], _ :: _, h => by simp at h
  | _ :: _, [], h => by simp at h
  | a :: as, b :: bs, h => by
    rw [List.map_cons, List.map_cons] at h
    injection h with h1 h2
    injection h1 with h1
    rw [h1, refs_inj as bs h2]
/-- while a text is gone through: HN is what is not touched any more -/
structure TB (H0 H HN : Hp) (pl ps pr : Addr) (s : LS) (i : Nat) : Prop where
  same : Same H0 H
  sub : Same HN H
  l0 : H0 pl = none ∧ HN pl = none
  s0 : H0 ps = none ∧ HN ps = none
  r0 : H0 pr = none ∧ HN pr = none
  ls : pl ≠ ps
  lr : pl ≠ pr
  sr : ps ≠ pr
  lays : ∃ as : List Addr, H pl = some (.lst (as.map V.ref)) ∧ as.length = s.ls.length ∧ ∀ i, i < s.ls.length → Rows HN (as.getD i 0) (s.ls.getD i [])
  rows : ∃ as : List Addr, H ps = some (.lst (as.map V.ref)) ∧ as.length = s.rs.length ∧ ∀ i, i < s.rs.length → IL HN (as.getD i 0) (s.rs.getD i [])
  row : IL H pr s.r
  len : s.r.length ≤ i ∧ s.rs.length ≤ i ∧ s.ls.length ≤ i
section
variable {H0 H H' HN : Hp} {pl ps pr : Addr} {s : LS} {i : Nat}
theorem TB.next (h : TB H0 H HN pl ps pr s i) : TB H0 H HN pl ps pr s (i + 1) := ⟨h.same, h.sub, h.l0, h.s0, h.r0, h.ls, h.lr, h.sr, h.lays, h.rows, h.row, by have := h.len; omega⟩
/-- a byte more in the row -/
theorem TB.byte {c : Nat} (h : TB H0 H HN pl ps pr s i) : TB H0 (upd H pr (.lst (vn s.r ++ [V.int (c : Int)]))) HN pl ps pr ⟨s.ls, s.rs, s.r ++ [c]⟩ (i + 1) := by
  refine ⟨same_upd h.same h.r0.1, same_upd h.sub h.r0.2, h.l0, h.s0, h.r0, h.ls, h.lr, h.sr, ?_, ?_, ?_, ?_⟩
  · obtain ⟨as, a, b, e⟩ := h.lays
    exact ⟨as, by rw [upd_ne h.lr]; exact a, b, e⟩
  · obtain ⟨as, a, b, e⟩ := h.rows
    exact ⟨as, by rw [upd_ne h.sr]; exact a, b, e⟩
  · unfold IL
    rw [upd_same]
    show some (HO.lst (vn s.r ++ [V.int (c : Int)])) = some (HO.lst ((s.r ++ [c]).map _))
    rw [List.map_append]
    rfl
  · have := h.len
    show (s.r ++ [c]).length ≤ _ ∧ _
    rw [List.length_append]
    show s.r.length + 1 ≤ _ ∧ s.rs.length ≤ _ ∧ s.ls.length ≤ _
    omega
/-- the row is ended: it goes to the rows, and a new one begins -/
theorem TB.endRow {p : Addr} {as : List Addr} (h : TB H0 H HN pl ps pr s i) (ha : H ps = some (.lst (as.map V.ref))) (n : upd H ps (.lst (as.map V.ref ++ [V.ref pr])) p = none) :
    TB H0 (upd (upd H ps (.lst (as.map V.ref ++ [V.ref pr]))) p (.lst [])) (upd HN pr (.lst (vn s.r))) pl ps p ⟨s.ls, s.rs ++ [s.r], []⟩ (i + 1) := by
  have s1 : Same H0 (upd H ps (.lst (as.map V.ref ++ [V.ref pr]))) := same_upd h.same h.s0.1
  have b1 : Same (upd HN pr (.lst (vn s.r))) (upd H ps (.lst (as.map V.ref ++ [V.ref pr]))) := same_upd (Same.upd_both h.sub h.row) (by rw [upd_ne h.sr]; exact h.s0.2)
  have pps : p ≠ ps := fun e => by
    rw [e, upd_same] at n
    cases n
  have np : H p = none := by
    rw [upd_ne pps] at n
    exact n
  obtain ⟨al, la, lb, le⟩ := h.lays
  obtain ⟨ar, ra, rb, re⟩ := h.rows
  have ear : as = ar := by
    rw [ha] at ra
    injection ra with ra
    injection ra with ra
    exact refs_inj _ _ ra
  subst ear
  have plp : pl ≠ p := ne_of_none la np
  have prp : pr ≠ p := ne_of_none h.row np
  refine ⟨same_of_new n s1, same_of_new n b1, ⟨h.l0.1, by rw [upd_ne h.lr]; exact h.l0.2⟩, ⟨h.s0.1, by rw [upd_ne h.sr]; exact h.s0.2⟩, ⟨s1.free n, b1.free n⟩, h.ls, plp, pps.symm, ?_, ?_, upd_same, ?_⟩
  · refine ⟨al, by rw [upd_ne plp, upd_ne h.ls]; exact la, lb, fun j hj => ?_⟩
    obtain ⟨ar, a, b, e⟩ := le j hj
    exact ⟨ar, by rw [upd_ne (ne_of_none a h.r0.2)]; exact a, b, fun z hz => IL.up (H := H) (e z hz) h.r0.2⟩
  · refine ⟨as ++ [pr], by rw [upd_ne pps.symm, upd_same, List.map_append]; rfl, by rw [List.length_append, List.length_append, rb]; rfl, fun j hj => ?_⟩
    rw [getD_snocG, getD_snocG, rb]
    by_cases q : j = s.rs.length
    · rw [if_pos q, if_pos q]
      exact upd_same
    · rw [if_neg q, if_neg q]
      have hj : j < (s.rs ++ [s.r]).length := hj
      rw [List.length_append] at hj
      exact IL.up (H := H) (re j (by have : j < s.rs.length + 1 := hj; omega)) h.r0.2
  · have := h.len
    show 0 ≤ _ ∧ (s.rs ++ [s.r]).length ≤ _ ∧ s.ls.length ≤ _
    rw [List.length_append]
    show 0 ≤ _ ∧ s.rs.length + 1 ≤ _ ∧ s.ls.length ≤ _
    omega
/-- the layer is ended -/
theorem TB.endLay {p : Addr} {as : List Addr} (h : TB H0 H HN pl ps pr s i) (ha : H pl = some (.lst (as.map V.ref))) (n : upd H pl (.lst (as.map V.ref ++ [V.ref ps])) p = none) (hr : s.r = []) :
    ∃ HN', TB H0 (upd (upd H pl (.lst (as.map V.ref ++ [V.ref ps]))) p (.lst [])) HN' pl p pr ⟨s.ls ++ [s.rs], [], []⟩ (i + 1) := by
  obtain ⟨al, la, lb, le⟩ := h.lays
  obtain ⟨ar, ra, rb, re⟩ := h.rows
  have eal : as = al := by
    rw [ha] at la
    injection la with la
    injection la with la
    exact refs_inj _ _ la
  subst eal
  have s1 : Same H0 (upd H pl (.lst (as.map V.ref ++ [V.ref ps]))) := same_upd h.same h.l0.1
  have b1 : Same (upd HN ps (.lst (ar.map V.ref))) (upd H pl (.lst (as.map V.ref ++ [V.ref ps]))) := same_upd (Same.upd_both h.sub ra) (by rw [upd_ne h.ls]; exact h.l0.2)
  have ppl : p ≠ pl := fun e => by
    rw [e, upd_same] at n
    cases n
  have np : H p = none := by
    rw [upd_ne ppl] at n
    exact n
  have prp : pr ≠ p := ne_of_none h.row np
  refine ⟨upd HN ps (.lst (ar.map V.ref)), same_of_new n s1, same_of_new n b1, ⟨h.l0.1, by rw [upd_ne h.ls]; exact h.l0.2⟩, ⟨s1.free n, b1.free n⟩, ⟨h.r0.1, by rw [upd_ne h.sr.symm]; exact h.r0.2⟩, ppl.symm, h.lr, prp.symm, ?_, ?_, ?_, ?_⟩
  · refine ⟨as ++ [ps], by rw [upd_ne ppl.symm, upd_same, List.map_append]; rfl, by rw [List.length_append, List.length_append, lb]; rfl, fun j hj => ?_⟩
    rw [getD_snocG, getD_snocG, lb]
    by_cases q : j = s.ls.length
    · rw [if_pos q, if_pos q]
      exact ⟨ar, upd_same, rb, fun z hz => IL.up (H := H) (re z hz) h.s0.2⟩
    · rw [if_neg q, if_neg q]
      have hj : j < (s.ls ++ [s.rs]).length := hj
      rw [List.length_append] at hj
      obtain ⟨a2, a, b, e⟩ := le j (by have : j < s.ls.length + 1 := hj; omega)
      exact ⟨a2, by rw [upd_ne (ne_of_none a h.s0.2)]; exact a, b, fun z hz => IL.up (H := H) (e z hz) h.s0.2⟩
  · exact ⟨[], upd_same, rfl, fun j hj => absurd hj (Nat.not_lt_zero j)⟩
  · unfold IL
    rw [upd_ne prp, upd_ne h.lr.symm]
    have := h.row
    rw [hr] at this
    exact this
  · have := h.len
    show 0 ≤ _ ∧ 0 ≤ _ ∧ (s.ls ++ [s.rs]).length ≤ _
    rw [List.length_append]
    show 0 ≤ _ ∧ 0 ≤ _ ∧ s.ls.length + 1 ≤ _
    omega
end
end Gr
set_option Elab.async false
set_option linter.all false
set_option maxRecDepth 100000
set_option maxHeartbeats 4000000
namespace Gr
open PySem PySem.Spec PyProof.Rows L2
open Vbwsar (Ground)
abbrev sLayers : Stmt := top 29
abbrev NLayers : List Str := ["octets", "layers", "rows", "row", "octet"]
theorem scLayers : FnScope NLayers ["octets"] (defScope sLayers) := ⟨rfl, rfl, rfl, by decide +kernel, rfl, by decide +kernel, by decide +kernel⟩
def spLayers : Sp := fun vs H Q _ => ∃ (o : Addr) (t : List Nat), vs = [.ref o] ∧ IL H o t ∧ t.length ≤ 1000 ∧
  ∀ H', Same H H' → (layM t = none → Q .non H') ∧ (∀ L p, layM t = some L → H p = none → Lays H' p L → Q (.ref p) H')
abbrev sEven : Stmt := top 30
abbrev NEven : List Str := ["layers", "rows", "row"]
theorem scEven : FnScope NEven ["layers"] (defScope sEven) := ⟨rfl, rfl, rfl, by decide +kernel, rfl, by decide +kernel, by decide +kernel⟩
def spEven : Sp := fun vs H Q _ => ∃ (a : Addr) (L : List (List (List Nat))), vs = [.ref a] ∧ Lays H a L ∧ Q (.bl (evenM L)) H
abbrev sSidesOf : Stmt := top 31
abbrev NSidesOf : List Str := ["layers"]
theorem scSidesOf : FnScope NSidesOf ["layers"] (defScope sSidesOf) := ⟨rfl, rfl, rfl, by decide +kernel, rfl, by decide +kernel, by decide +kernel⟩
def spSidesOf : Sp := fun vs H Q _ => ∃ (a : Addr) (L : List (List (List Nat))), vs = [.ref a] ∧ Lays H a L ∧ evenM L = true ∧
  ∀ p, H p = none → Q (.ref p) (upd H p (.tup [.int ((sidesM L).1 : Int), .int ((sidesM L).2.1 : Int), .int ((sidesM L).2.2 : Int)]))
theorem int_eq10 (n : Nat) : decide (V.int (n : Int) = V.int 10) = (n == 10) := int_eqN n 10
theorem lt0N (n : Nat) : decide ((0 : Int) < (n : Int)) = decide (0 < n) := by
  rw [decide_eq_decide]
  omega
theorem head0 {L : List (List (List Nat))} (h : 0 < L.length) : L.getD 0 [] = L.headD [] := by
  cases L with
  | nil => exact absurd h (Nat.lt_irrefl 0)
  | cons a b => rfl
theorem head1 {L : List (List Nat)} : L.getD 0 [] = L.headD [] := by
  cases L with
  | nil => rfl
  | cons a b => rfl
section
variable {P : Program} {w : World} {K : PySem.W.Frag} {mg : Str → Option Value} {base : Heap} {CL CG : Addr}
theorem ok_layers {f : Addr} {fd : FuncData} (F : Fun K "layers_of" "layers_of" sLayers f fd) (T : Txt K mg CL CG) : FnOk P w K mg base CX0 1 f fd ["octets"] spLayers := by
  refine F.ok scLayers (fun vs H Q E h => ?_) (fun cdv A outer s H vs Q E hr h => ?_)
  · obtain ⟨_, _, rfl, _⟩ := h
    rfl
  · refine ⟨_, pss_cons (ps_set (i := 1) scLayers.nd rfl (Or.inl rfl) (pe_lst pa_nil))
      (pss_cons (ps_set (i := 2) scLayers.nd rfl (Or.inl rfl) (pe_lst pa_nil))
      (pss_cons (ps_set (i := 3) scLayers.nd rfl (Or.inl rfl) (pe_lst pa_nil))
      (pss_cons (ps_for PassesOwn.never rfl (pi_list (pv 0)) (pg_name (i := 4) scLayers.nd rfl (Or.inl rfl))
        (pss_one (ps_if (pt_cmpR op_ne (pv 4) (pe_gi T.gROW) (nomark _))
          (pss_one (ps_expr (pe_bm PySem.F.plainAttrs_list PySem.F.slot_list_append PySem.F.type_list_append mt_append (pv 3) (pa_cons (pv 4) pa_nil))))
          (pss_one (ps_if (pt_cmpR op_gt (pe_callB call_len_seq (by rfl) T.nlen PySem.boot_len (pa_cons (pv 3) pa_nil)) pe_int (nomark _))
            (pss_cons (ps_expr (pe_bm PySem.F.plainAttrs_list PySem.F.slot_list_append PySem.F.type_list_append mt_append (pv 2) (pa_cons (pv 3) pa_nil)))
              (pss_one (ps_set (i := 3) scLayers.nd rfl (Or.inl rfl) (pe_lst pa_nil))))
            (pss_cons (ps_expr (pe_bm PySem.F.plainAttrs_list PySem.F.slot_list_append PySem.F.type_list_append mt_append (pv 1) (pa_cons (pv 2) pa_nil)))
              (pss_one (ps_set (i := 2) scLayers.nd rfl (Or.inl rfl) (pe_lst pa_nil)))))))))
      (pss_cons (ps_if (PW.pt (pw_or (pt_cmpR op_gt (pe_callB call_len_seq (by rfl) T.nlen PySem.boot_len (pa_cons (pv 3) pa_nil)) pe_int (nomark _)) (pw_or1 (pt_cmpR op_gt (pe_callB call_len_seq (by rfl) T.nlen PySem.boot_len (pa_cons (pv 2) pa_nil)) pe_int (nomark _)))))
        (pss_one (ps_ret pe_non)) pss_nil)
      (pss_one (ps_ret (pv 1))))))), ?_⟩
    obtain ⟨o, t, rfl, ho, tl, q⟩ := h
    have small : ∀ n, n ≤ 1000 → n < sizeLine := fun n h => small1000 h
    refine ⟨(by show 0 ≤ sizeLine; decide), fun pl hpl => ?_⟩
    generalize g1 : upd H pl _ = H1
    obtain ⟨s1, e1⟩ := newS hpl g1
    refine ⟨(by show 0 ≤ sizeLine; decide), fun ps hps => ?_⟩
    generalize g2 : upd H1 ps _ = H2
    obtain ⟨s2, e2⟩ := newS hps g2
    refine ⟨(by show 0 ≤ sizeLine; decide), fun pr hpr => ?_⟩
    generalize g3 : upd H2 pr _ = H3
    obtain ⟨s3, e3⟩ := newS hpr g3
    have B0 : TB H H3 (fun _ => none) pl ps pr ⟨[], [], []⟩ 0 :=
      ⟨s1.trans (s2.trans s3), fun c o e => (by cases e), ⟨hpl, rfl⟩, ⟨s1.free hps, rfl⟩, ⟨s1.free (s2.free hpr), rfl⟩, ne_of_none e1 hps, ne_of_none (s2 _ _ e1) hpr, ne_of_none e2 hpr,
        ⟨[], s3 _ _ (s2 _ _ e1), rfl, fun j hj => absurd hj (Nat.not_lt_zero j)⟩, ⟨[], s3 _ _ e2, rfl, fun j hj => absurd hj (Nat.not_lt_zero j)⟩, e3, Nat.le_refl _, Nat.le_refl _, Nat.le_refl _⟩
    clear g1 g2 g3 e1 e2 e3
    refine ⟨_, rfl, o, rfl, ⟨_, SqL.of (B0.same _ _ ho)⟩, for_list (K := K) (a := o) (xs := vn t) (fun i σ H' => ∃ (ps pr : Addr) (c : Option V) (HN : Hp), σ = [some (.ref o), some (.ref pl), some (.ref ps), some (.ref pr), c] ∧ TB H H' HN pl ps pr ((t.take i).foldl layStep ⟨[], [], []⟩) i)
      ⟨ps, pr, _, _, rfl, B0⟩ (fun i σ H' _ ⟨_, _, _, _, _, B⟩ => SqL.of (B.same _ _ ho)) ?_ ?_⟩
    · rintro i x σ H4 hi ⟨ps, pr, c, HN, rfl, B⟩
      obtain ⟨b, hb, rfl⟩ := at_vn hi
      have il : i < t.length := (List.getElem?_eq_some_iff.mp hb).1
      rw [foldl_more hb]
      generalize (t.take i).foldl layStep ⟨[], [], []⟩ = st at B
      have bl := B.len
      refine ⟨_, rfl, rfl, _, rfl, ?_⟩
      rw [int_eq10]
      cases c10 : (b == 10) with
      | false =>
        have c10 : ¬ b = 10 := by simpa using c10
        rw [layStep_sign c10]
        exact iteT ⟨_, rfl, .inl ⟨rfl, _, SqL.of B.row⟩, _, rfl, pr, _, _, rfl, rfl, B.row, (by rw [vn_len]; exact small _ (by omega)), ⟨ps, pr, _, _, rfl, B.byte⟩⟩
      | true =>
        have c10 : b = 10 := by simpa using c10
        subst c10
        refine iteF ⟨_, rfl, pr, _, rfl, .inl (SqL.of B.row), _, _, rfl, rfl, _, rfl, ?_⟩
        rw [vn_len, lt0N]
        by_cases c0 : 0 < st.r.length
        · rw [decide_eq_true c0, layStep_row c0]
          obtain ⟨as, ha, hal, hae⟩ := B.rows
          exact iteT ⟨_, rfl, .inl ⟨rfl, _, SqL.of ha⟩, _, rfl, ps, _, _, rfl, rfl, ha, (by rw [List.length_map, hal]; exact small _ (by omega)), (by show 0 ≤ sizeLine; decide), fun p hp => ⟨ps, p, _, _, rfl, B.endRow ha hp⟩⟩
        · rw [decide_eq_false c0, layStep_lay c0]
          obtain ⟨as, ha, hal, hae⟩ := B.lays
          refine iteF ⟨_, rfl, .inl ⟨rfl, _, SqL.of ha⟩, _, rfl, pl, _, _, rfl, rfl, ha, (by rw [List.length_map, hal]; exact small _ (by omega)), (by show 0 ≤ sizeLine; decide), fun p hp => ?_⟩
          obtain ⟨HN', B'⟩ := B.endLay ha hp (List.length_eq_zero_iff.mp (by omega))
          exact ⟨p, pr, _, _, rfl, B'⟩
    · rintro σ H4 ⟨ps, pr, c, HN, rfl, B⟩
      rw [vn_len, List.take_length] at B
      have qn := q H4 B.same
      unfold layM at qn
      generalize t.foldl layStep ⟨[], [], []⟩ = st at B qn
      unfold layEnd at qn
      refine ⟨_, rfl, pr, _, rfl, .inl (SqL.of B.row), _, _, rfl, rfl, _, rfl, ?_⟩
      rw [vn_len, lt0N]
      by_cases c0 : 0 < st.r.length
      · rw [decide_eq_true c0]
        exact iteT (iteT (qn.1 (if_pos (.inl c0))))
      · rw [decide_eq_false c0]
        obtain ⟨as, ha, hal, hae⟩ := B.rows
        refine iteF ⟨_, rfl, ps, _, rfl, .inl (SqL.of ha), _, _, rfl, rfl, _, rfl, ?_⟩
        rw [List.length_map, hal, lt0N]
        by_cases c1 : 0 < st.rs.length
        · rw [decide_eq_true c1]
          exact iteT (qn.1 (if_pos (.inr c1)))
        · rw [decide_eq_false c1]
          obtain ⟨al, la, lb, le⟩ := B.lays
          exact iteF ⟨_, rfl, qn.2 _ pl (if_neg (fun z => z.elim c0 c1)) B.l0.1 ⟨al, la, lb, fun i hi => (le i hi).same B.sub⟩⟩
theorem ok_even {f : Addr} {fd : FuncData} (F : Fun K "is_even" "is_even" sEven f fd) (T : Txt K mg CL CG) : FnOk P w K mg base CX0 1 f fd ["layers"] spEven := by
  refine F.ok scEven (fun vs H Q E h => ?_) (fun cdv A outer s H vs Q E hr h => ?_)
  · obtain ⟨_, _, rfl, _⟩ := h
    rfl
  · refine ⟨_, pss_cons (ps_if (PW.pt (pw_or (pt_cmpR op_eq (pe_callB call_len_seq (by rfl) T.nlen PySem.boot_len (pa_cons (pv 0) pa_nil)) pe_int (nomark _)) (pw_or1 (pt_cmpR op_eq (pe_callB call_len_seq (by rfl) T.nlen PySem.boot_len (pa_cons (pe_ix ix_list (pv 0) pe_int (fun _ _ => rfl)) pa_nil)) pe_int (nomark _)))))
        (pss_one (ps_ret pe_bl)) pss_nil)
      (pss_cons (ps_for PassesOwn.never rfl (pi_list (pv 0)) (pg_name (i := 1) scEven.nd rfl (Or.inl rfl))
        (pss_cons (ps_if (pt_cmpR op_ne (pe_callB call_len_seq (by rfl) T.nlen PySem.boot_len (pa_cons (pv 1) pa_nil)) (pe_callB call_len_seq (by rfl) T.nlen PySem.boot_len (pa_cons (pe_ix ix_list (pv 0) pe_int (fun _ _ => rfl)) pa_nil)) (nomark _))
          (pss_one (ps_ret pe_bl)) pss_nil)
        (pss_one (ps_for PassesOwn.never rfl (pi_list (pv 1)) (pg_name (i := 2) scEven.nd rfl (Or.inl rfl))
          (pss_one (ps_if (pt_cmpR op_ne (pe_callB call_len_seq (by rfl) T.nlen PySem.boot_len (pa_cons (pv 2) pa_nil)) (pe_callB call_len_seq (by rfl) T.nlen PySem.boot_len (pa_cons (pe_ix ix_list (pe_ix ix_list (pv 0) pe_int (fun _ _ => rfl)) pe_int (fun _ _ => rfl)) pa_nil)) (nomark _))
            (pss_one (ps_ret pe_bl)) pss_nil))))))
      (pss_one (ps_ret pe_bl))), ?_⟩
    obtain ⟨a, L, rfl, ⟨as, ha, hal, hae⟩, q⟩ := h
    have int0 : ∀ n : Nat, decide (V.int (n : Int) = V.int 0) = (n == 0) := fun n => int_eqN n 0
    refine ⟨_, rfl, a, _, rfl, .inl (SqL.of ha), rfl, _, rfl, ?_⟩
    rw [List.length_map, hal, int0]
    cases c0 : (L.length == 0) with
    | true =>
      have : evenM L = false := by
        unfold evenM
        rw [c0]
        rfl
      rw [this] at q
      exact iteT (iteT q)
    | false =>
      have c0' : 0 < L.length := by
        rw [beq_eq_false_iff_ne] at c0
        omega
      have h0 := hae 0 c0'
      rw [head0 c0'] at h0
      obtain ⟨rs0, r0a, r0l, r0e⟩ := h0
      have at0 : atI (as.map V.ref) 0 = some (V.ref (as.getD 0 0)) := at_of (j := 0) rfl (refs_at (by omega))
      refine iteF ⟨_, rfl, a, _, 0, _, rfl, rfl, SqL.of ha, at0, as.getD 0 0, _, rfl, .inl (SqL.of r0a), rfl, _, rfl, ?_⟩
      rw [List.length_map, r0l, int0]
      cases c1 : ((L.headD []).length == 0) with
      | true =>
        have : evenM L = false := by
          unfold evenM
          rw [c1]
          simp
        rw [this] at q
        exact iteT q
      | false =>
        have c1' : 0 < (L.headD []).length := by
          rw [beq_eq_false_iff_ne] at c1
          omega
        have row0 := r0e 0 c1'
        rw [head1] at row0
        have at00 : atI (rs0.map V.ref) 0 = some (V.ref (rs0.getD 0 0)) := at_of (j := 0) rfl (refs_at (by omega))
        have no : (∃ l ∈ L, ¬ (l.length == (L.headD []).length && l.all fun r => r.length == ((L.headD []).headD []).length) = true) → evenM L = false := fun ⟨l, hl, n⟩ => by
          cases z : evenM L with
          | false => rfl
          | true =>
            unfold evenM at z
            rw [Bool.and_eq_true, List.all_eq_true] at z
            exact absurd (z.2 l hl) n
        refine iteF ⟨_, rfl, a, rfl, ⟨_, SqL.of ha⟩, for_list (K := K) (a := a) (xs := as.map V.ref) (fun i σ H' => H' = H ∧ ∃ c1 c2, σ = [some (.ref a), c1, c2] ∧ ∀ l ∈ L.take i, (l.length == (L.headD []).length && l.all fun r => r.length == ((L.headD []).headD []).length) = true)
          ⟨rfl, _, _, rfl, fun l hl => by cases hl⟩ (fun i σ H' _ h => by rw [h.1]; exact SqL.of ha) ?_ ?_⟩
        · rintro i x σ H' hi ⟨rfl, c2, c3, rfl, ok⟩
          have il : i < L.length := by
            have := (List.getElem?_eq_some_iff.mp hi).1
            rw [List.length_map, hal] at this
            exact this
          rw [refs_at (by omega)] at hi
          injection hi with hi
          subst hi
          have hli : L[i]? = some (L.getD i []) := by
            rw [List.getD_eq_getElem?_getD, List.getElem?_eq_getElem il]
            rfl
          have mem : L.getD i [] ∈ L := List.mem_of_getElem? hli
          obtain ⟨rs, ra, rl, re⟩ := hae i il
          refine ⟨_, rfl, as.getD i 0, _, rfl, .inl (SqL.of ra), _, rfl, a, _, 0, _, rfl, rfl, SqL.of ha, at0, as.getD 0 0, _, rfl, .inl (SqL.of r0a), rfl, _, rfl, ?_⟩
          rw [List.length_map, List.length_map, rl, r0l, int_eqN]
          cases c4 : ((L.getD i []).length == (L.headD []).length) with
          | false =>
            have := no ⟨_, mem, by rw [c4, Bool.false_and]; decide⟩
            rw [this] at q
            exact iteT q
          | true =>
            refine iteF ⟨_, rfl, as.getD i 0, rfl, ⟨_, SqL.of ra⟩, for_list (K := K) (a := as.getD i 0) (xs := rs.map V.ref) (fun j σ H'' => H'' = H' ∧ ∃ c2, σ = [some (.ref a), some (.ref (as.getD i 0)), c2] ∧ ∀ r ∈ (L.getD i []).take j, (r.length == ((L.headD []).headD []).length) = true)
              ⟨rfl, _, rfl, fun l hl => by cases hl⟩ (fun j σ H'' _ h => by rw [h.1]; exact SqL.of ra) ?_ ?_⟩
            · rintro j x σ H'' hj ⟨rfl, c5, rfl, ok2⟩
              have jl : j < (L.getD i []).length := by
                have := (List.getElem?_eq_some_iff.mp hj).1
                rw [List.length_map, rl] at this
                exact this
              rw [refs_at (by omega)] at hj
              injection hj with hj
              subst hj
              have hrj : (L.getD i [])[j]? = some ((L.getD i []).getD j []) := by
                rw [List.getD_eq_getElem?_getD (l := L.getD i []), List.getElem?_eq_getElem jl]
                rfl
              refine ⟨_, rfl, rs.getD j 0, _, rfl, .inl (SqL.of (re j jl)), _, rfl, a, _, 0, _, rfl, rfl, SqL.of ha, at0, as.getD 0 0, _, 0, _, rfl, rfl, SqL.of r0a, at00, rs0.getD 0 0, _, rfl, .inl (SqL.of row0), rfl, _, rfl, ?_⟩
              rw [vn_len, vn_len, int_eqN]
              cases c6 : (((L.getD i []).getD j []).length == ((L.headD []).headD []).length) with
              | false =>
                have := no ⟨_, mem, fun z => by
                  rw [Bool.and_eq_true, List.all_eq_true] at z
                  have := z.2 _ (List.mem_of_getElem? hrj)
                  rw [c6] at this
                  cases this⟩
                rw [this] at q
                exact iteT q
              | true =>
                refine iteF ⟨rfl, _, rfl, ?_⟩
                rw [take_more hrj]
                intro r hr
                rcases List.mem_append.mp hr with hr | hr
                · exact ok2 r hr
                · have : r = (L.getD i []).getD j [] := by simpa using hr
                  rw [this]
                  exact c6
            · rintro σ H'' ⟨rfl, c5, rfl, ok2⟩
              rw [List.length_map, rl, List.take_length] at ok2
              refine ⟨rfl, _, _, rfl, ?_⟩
              rw [take_more hli]
              intro l hl
              rcases List.mem_append.mp hl with hl | hl
              · exact ok l hl
              · have : l = L.getD i [] := by simpa using hl
                rw [this, c4, Bool.true_and, List.all_eq_true]
                exact ok2
        · rintro σ H' ⟨rfl, c2, c3, rfl, ok⟩
          rw [List.length_map, hal, List.take_length] at ok
          have : evenM L = true := by
            unfold evenM
            rw [c0, c1, List.all_eq_true.mpr ok]
            rfl
          rw [this] at q
          exact q
theorem ok_sidesOf {f : Addr} {fd : FuncData} (F : Fun K "sides_of" "sides_of" sSidesOf f fd) (T : Txt K mg CL CG) : FnOk P w K mg base CX0 1 f fd ["layers"] spSidesOf := by
  refine F.ok scSidesOf (fun vs H Q E h => ?_) (fun cdv A outer s H vs Q E hr h => ?_)
  · obtain ⟨_, _, rfl, _⟩ := h
    rfl
  · refine ⟨_, pss_one (ps_ret (pe_tup (pa_cons (pe_callB call_len_seq (by rfl) T.nlen PySem.boot_len (pa_cons (pe_ix ix_list (pe_ix ix_list (pv 0) pe_int (fun _ _ => rfl)) pe_int (fun _ _ => rfl)) pa_nil))
      (pa_cons (pe_callB call_len_seq (by rfl) T.nlen PySem.boot_len (pa_cons (pe_ix ix_list (pv 0) pe_int (fun _ _ => rfl)) pa_nil))
      (pa_cons (pe_callB call_len_seq (by rfl) T.nlen PySem.boot_len (pa_cons (pv 0) pa_nil)) pa_nil))))), ?_⟩
    obtain ⟨a, L, rfl, ⟨as, ha, hal, hae⟩, ev, q⟩ := h
    have ev2 := ev
    unfold evenM at ev2
    rw [Bool.and_eq_true, Bool.and_eq_true, Bool.not_eq_true', Bool.not_eq_true', beq_eq_false_iff_ne, beq_eq_false_iff_ne] at ev2
    have c0' : 0 < L.length := by omega
    have c1' : 0 < (L.headD []).length := by omega
    have h0 := hae 0 c0'
    rw [head0 c0'] at h0
    obtain ⟨rs0, r0a, r0l, r0e⟩ := h0
    have row0 := r0e 0 c1'
    rw [head1] at row0
    have at0 : atI (as.map V.ref) 0 = some (V.ref (as.getD 0 0)) := at_of (j := 0) rfl (refs_at (by omega))
    have at00 : atI (rs0.map V.ref) 0 = some (V.ref (rs0.getD 0 0)) := at_of (j := 0) rfl (refs_at (by omega))
    refine ⟨_, rfl, a, _, 0, _, rfl, rfl, SqL.of ha, at0, as.getD 0 0, _, 0, _, rfl, rfl, SqL.of r0a, at00, rs0.getD 0 0, _, rfl, .inl (SqL.of row0), _, rfl, a, _, 0, _, rfl, rfl, SqL.of ha, at0, as.getD 0 0, _, rfl, .inl (SqL.of r0a), _, rfl, a, _, rfl, .inl (SqL.of ha), (by show 3 ≤ sizeLine; decide), fun p hp => ?_⟩
    rw [vn_len, List.length_map, List.length_map, hal, r0l]
    exact q p hp
end
end Gr
set_option Elab.async false
set_option linter.all false
set_option maxRecDepth 100000
set_option maxHeartbeats 4000000
/-! # enumerate of a tuple -/
namespace GrX
open PySem
open Sem (wp)
open AutoSeq1 (wpAny_loadPart')
theorem meets_enumT (l : Addr) (items : Array Value) (n : Nat) (dct : Option Addr) (sl : Array (Option Value)) :
    Meets (Builtin.«enumerate.__new__» ⟨[.type "enumerate", .ref l], []⟩) (fun _ R s => s.heap.get? l = some { cls := .type "tuple", dict := dct, data := .seq items n, slots := sl } ∧
      R (.ok (.ret (.ref (s.heap.push { cls := .type "tuple_iterator", data := .fields #[.ref l, .int 0 0] }).objs.size)))
        { s with heap := (s.heap.push { cls := .type "tuple_iterator", data := .fields #[.ref l, .int 0 0] }).push { cls := .type "enumerate", data := .fields #[.none, .bool false, .ref s.heap.objs.size, rawInt 0, .none, .none] } }) :=
  .of_wp fun prog w A R s h => by
    obtain ⟨hp, g, d, tk, os⟩ := s; obtain ⟨hl, h⟩ := h
    have hsub := sub_enumerate
    have hL : Heap.IsTuple (Shared.heap ⟨hp, g, d, tk, os⟩) l items := ⟨_, hl, rfl, n, rfl⟩
    wp_walk using wpAny_loadPart' hl
    refine wpAny_stack_any fun st => wpAny_pure ?_
    split
    · rename_i c _ _ _ _ _
      cases (c == Value.type "enumerate")
      · wp_walk using wpAny_loadPart' hl, wpAny_pyIter_tuple hL
        exact ⟨_, rfl, h⟩
      · wp_walk using wpAny_loadPart' hl, wpAny_pyIter_tuple hL
        exact ⟨_, rfl, h⟩
    · wp_walk using wpAny_loadPart' hl, wpAny_pyIter_tuple hL
      exact ⟨_, rfl, h⟩
section
variable {prog : Program} {w : World} {A : Around} {E : Value → Shared → Prop} {s : Shared}
theorem call_enumT {l : Addr} {items : Array Value} {Q : Value → Shared → Prop} (hL : s.heap.IsTuple l items)
    (h : ∀ h', IsEnum h' (s.heap.objs.size + 1) s.heap.objs.size 0 .none → h'.IsTupleIter s.heap.objs.size l 0 → h'.objs.size = s.heap.objs.size + 2 →
      (∀ b o, s.heap.get? b = some o → h'.get? b = some o) → Q (.ref (s.heap.objs.size + 1)) { s with heap := h' }) :
    wpAny (model prog w) A (call (.type "enumerate") [.ref l]) Q E s := by
  obtain ⟨⟨c, dct, dt, sl⟩, hl, hc, n, hd⟩ := hL
  replace hc : c = .type "tuple" := hc
  replace hd : dt = .seq items n := hd
  subst hc hd
  refine callType_new F.called_enumerate (by decide) (F.typeCall_enumerate_1 _) (F.newCall_enumerate_1 _) (fun obj => F.args_object_init_2 obj _) F.entry_enumerate_new
    (meets_enumT l items n dct sl) ⟨hl, ?_⟩
  have hz : (s.heap.push { cls := .type "tuple_iterator", data := .fields #[.ref l, .int 0 0] }).objs.size = s.heap.objs.size + 1 := Heap.size_push ..
  show _ ∧ _
  rw [hz]
  have he : IsEnum ((s.heap.push { cls := .type "tuple_iterator", data := .fields #[.ref l, .int 0 0] }).push
      { cls := .type "enumerate", data := .fields #[.none, .bool false, .ref s.heap.objs.size, rawInt 0, .none, .none] }) (s.heap.objs.size + 1) s.heap.objs.size 0 .none := by
    have := Heap.get?_push_size (s.heap.push { cls := .type "tuple_iterator", data := .fields #[.ref l, .int 0 0] })
      (o := { cls := .type "enumerate", data := .fields #[.none, .bool false, .ref s.heap.objs.size, rawInt 0, .none, .none] }) rfl
    rw [hz] at this; exact this
  refine ⟨⟨_, he, rfl⟩, h _ he ⟨_, Heap.get?_push_of_some _ (Heap.get?_push_size _ rfl), rfl, rfl⟩ (by rw [Heap.size_push, hz]) fun b o x => Heap.get?_push_of_some _ (Heap.get?_push_of_some _ x)⟩
theorem next_enumT_end {e it t : Addr} {i : Nat} {items : Array Value} {old : Value} {Q : Option Value → Shared → Prop} (hh : A.handled = none)
    (he : IsEnum s.heap e it i old) (hit : s.heap.IsTupleIter it t i) (ht : s.heap.IsTuple t items) (hx : items[i]? = none)
    (hQ : ∀ h', Heap.ExtBut it s.heap h' → Q none { s with heap := h' }) : wpAny (model prog w) A (pyNext (.ref e)) Q E s := by
  have hT : s.TypeIs (.ref e) "enumerate" := ⟨_, he, rfl⟩
  unfold pyNext
  refine wpAny_bind (wpAny_attempt (wpAny_callSpecial?_slot (name := Str.ofString "__next__") hT F.slot_enumerate_next
    (wpAny_call_entry F.slot_enumerate_next hT F.entry_enumerate_next ?_ (F.args_enumerate_next_1 _))))
  show wpAny _ _ (field (.ref e) 2 >>= _) _ _ _
  refine wpAny_bind (wpAny_field he rfl (x := .ref it) rfl ?_)
  refine wpAny_bind (wpAny_nextOf_tuple_end hh hit ht hx fun h' x he' hx' => ?_)
  obtain ⟨o, ho, hc⟩ := hx'
  refine wpAny_bind (wpAny_isInstance (T := "StopIteration") (b := true) ⟨o, ho, hc⟩ isSubtype_stop ?_)
  exact wpAny_pure (hQ _ he')
end
end GrX
namespace Gr
open PySem PySem.Spec PyProof.Rows L2
/-- the tuple at a, each item in a new pair -/
def IteT (K : PySem.W.Frag) (a : Addr) : It :=
  ⟨fun i H => ∃ (xs : List V) (x : V), SqT K H a xs ∧ xs[i]? = some x, fun i H v H' => ∃ T x, v = .ref T ∧ H T = none ∧ H' = upd H T (.tup [.int (i : Nat), x]) ∧ ∀ xs, SqT K H a xs → xs[i]? = some x, fun i H => ∃ xs : List V, SqT K H a xs ∧ xs.length ≤ i⟩
theorem turn_enumT {P : Program} {w : World} {K : PySem.W.Frag} {elts : List Expr} {kk : Nat} {tpos : Pos} (a e it : Addr) :
    Turn P w K (.Tuple elts kk tpos) (IteT K a) [e, it] e (fun i h => (∃ old, IsEnum h e it ((i : Nat) : Int) old) ∧ h.IsTupleIter it a i ∧ e ≠ it ∧ e ≠ a ∧ a ≠ it) where
  mem := by simp
  obj := fun i h st b hb => by
    obtain ⟨⟨old, he⟩, ⟨o, ho, hc, hd⟩, _⟩ := st
    have e' : b = e ∨ b = it := by simpa using hb
    rcases e' with z | z
    · rw [z]; exact ⟨_, he, fun v q => nomatch q⟩
    · rw [z]; exact ⟨o, ho, fun v q => by rw [hd] at q; cases q⟩
  keep := fun i h h' st k => let ⟨⟨old, he⟩, hi, hne⟩ := st; ⟨⟨old, k e (by simp) _ he⟩, hi.at fun o q => k it (by simp) o q, hne⟩
  item := by
    intro X hP hw hK hc i pins s σ H E I hf st hg
    subst hP hw hK
    obtain ⟨⟨old, he⟩, hit, hne, hea, hai⟩ := st
    obtain ⟨xs, x, hq, hx⟩ := hg
    obtain ⟨its, rv, p, hz⟩ := I.tuple hq
    obtain ⟨u, hu, ru⟩ := rv.get hx
    have hel : e < s.heap.objs.size := Heap.lt_size he
    have hil : it < s.heap.objs.size := by obtain ⟨_, q, _⟩ := hit; exact Heap.lt_size q
    have hlt : i < its.toArray.size := by
      have := (List.getElem?_eq_some_iff.mp hu).1
      simpa using this
    have D := Draws.tuple (prog := X.prog) (w := X.w) (A := X.A.in1) (I.ok.hd hc) it a hai its.toArray
    refine wpAny_pyNext_enum_itemD D he ⟨hit, (show s.heap.IsTuple a its.toArray from p)⟩ hlt hne (by simp [hne, hea]) fun x' h' tk hP ho st' hT hsz hk => ?_
    obtain ⟨hit', _⟩ := st'
    have ex : x' = u := by
      have a1 : its.toArray[i]? = some x' := hP
      have a2 : its[i]? = some x' := by simpa using a1
      rw [hu] at a2
      exact (Option.some.inj a2).symm
    subst ex
    refine ⟨_, rfl, wpAny_letOwnedTupleGo_enum (s := { s with heap := h', toks := tk + 1 }) ho fun h'' he' sb => ?_⟩
    have hT2 : h''.get? s.heap.objs.size = some { cls := .type "tuple", data := .seq #[.int i tk, x'] } := (sb.2 _ (Nat.ne_of_gt hel)).trans hT
    have new : ObjOk X.prog X.w (upd H s.heap.objs.size (.tup [.int (i : Nat), x])) h'' s.heap.objs.size (.tup [.int (i : Nat), x]) :=
      ⟨by show 2 ≤ sizeLine; decide, [.int i tk, x'], .cons ⟨_, rfl⟩ (.cons ru .nil), ⟨_, hT2, rfl, _, rfl⟩⟩
    have I1 : Inv X pins σ (upd H s.heap.objs.size (.tup [.int (i : Nat), x])) { s with heap := h'', toks := tk + 1 } :=
      I.turnedNew (ch := [e, it]) (fun b ob hb q => (sb.2 b (fun z => hb (by simp [z]))).trans (hk b ob (fun z => hb (by simp [z])) (fun z => hb (by simp [z])) q)) hf (Nat.le_refl _) new
    refine ⟨.ref s.heap.objs.size, _, I1, rfl, ⟨_, x, rfl, I.hok.fresh (Nat.le_refl _), rfl, fun ys hy => by rw [I.tuple_inj hy hq]; exact hx⟩, ⟨⟨x', ?_⟩, hit'.at fun o q => (sb.2 it (Ne.symm hne)).trans q, hne, hea, hai⟩, fun b hb => ?_⟩
    · have e1 : ((i + 1 : Nat) : Int) = (i : Int) + 1 := by omega
      rw [e1]; exact he'
    · have hb' : b < s.heap.objs.size := by
        have e' : b = e ∨ b = it := by simpa using hb
        rcases e' with z | z
        · rw [z]; exact hel
        · rw [z]; exact hil
      rw [upd_ne (Nat.ne_of_lt hb')]
      exact (hf b hb).1
  done := by
    intro X hP hw hK hc i pins s σ H E I hf st hg
    subst hP hw hK
    obtain ⟨⟨old, he⟩, hit, hne, hea, hai⟩ := st
    obtain ⟨xs, hq, hx⟩ := hg
    obtain ⟨its, rv, p, hz⟩ := I.tuple hq
    obtain ⟨f0, f1, f2, f3, f4, f5⟩ := hf it (by simp)
    have hl := rv.length
    exact GrX.next_enumT_end (I.ok.hd hc) he hit (show s.heap.IsTuple a its.toArray from p) (by simp; omega) fun h' eb => ⟨rfl, I.turned (t' := s.toks) (fun b o hb q => eb b o hb q) f0 f1 f3 f4 f5⟩
  self := fun A i s Q E st h => let ⟨⟨_, he⟩, _⟩ := st; wpAny_pyIter_enum he h
def iEnumT (K : PySem.W.Frag) (ta : TA) : TI := fun σ H R => ta σ H fun vs H1 => ∃ a xs, vs = [.ref a] ∧ SqT K H1 a xs ∧ R (IteT K a) H1
theorem pi_enumT {X : Cx} {e : Expr} {ta : TA} {p pos tpos : Pos} {elts : List Expr} {kk : Nat} (hg : Gl X "enumerate") (hm : X.mg "enumerate" = none) (ha : PA X [e] ta) (hs : starEach [e] X.env = [(false, eval e X.env)] := by rfl) :
    PI X (.Tuple elts kk tpos) (.Call (.Name "enumerate" p) [e] [] pos) (iEnumT X.K ta) := by
  refine ⟨fun pins s σ H R I h => ?_⟩
  refine Call_ (ld_blt I hg hm boot_enumerate (PyProof.Rows.callWith_type1 (thn (ha.run pos pins s σ H _ I h) fun us s1 ⟨vs, H1, I1, r1, q1⟩ => ?_) hs rfl))
  obtain ⟨a, xs, ex, hq, q⟩ := q1
  subst ex
  cases r1 with
  | cons r rr =>
    cases rr
    cases r
    obtain ⟨its, rv, p', hz⟩ := I1.tuple hq
    have ht : s1.heap.IsTuple a its.toArray := p'
    have al : a < s1.heap.objs.size := by
      obtain ⟨o, ho, _⟩ := ht
      exact Heap.lt_size ho
    refine GrX.call_enumT ht fun h' he hit hsz hk => wpAny_pyIter_enum he ?_
    have I2 : Inv X pins σ H1 { s1 with heap := h' } := I1.kept (t' := s1.toks) hk
    refine ⟨s1.heap.objs.size + 1, [s1.heap.objs.size + 1, s1.heap.objs.size], _, _, H1, rfl, I2, turn_enumT a (s1.heap.objs.size + 1) s1.heap.objs.size, ⟨⟨.none, he⟩, hit, Nat.succ_ne_self _, Nat.ne_of_gt (Nat.lt_succ_of_lt al), Nat.ne_of_lt al⟩, fun b hb => ?_, q⟩
    have e' : b = s1.heap.objs.size + 1 ∨ b = s1.heap.objs.size := by simpa using hb
    have hle : s1.heap.objs.size ≤ b := by
      rcases e' with z | z
      · rw [z]; exact Nat.le_add_right _ _
      · rw [z]; exact Nat.le_refl _
    exact I1.fpOk hle (I1.hok.fresh hle)
theorem walk_enumT {K : PySem.W.Frag} {a : Addr} {xs : List V} : Walk (IteT K a) xs.length (fun H => SqT K H a xs) (YPair (fun i => some (.int (i : Nat))) (fun i => xs[i]?)) := by
  refine ⟨fun i _ hi q => ⟨xs, xs[i], q, by simp [hi]⟩, fun _ q => ⟨xs, q, Nat.le_refl _⟩, fun i H v H' _ q y => ?_⟩
  obtain ⟨T, x, h1, h2, h3, h4⟩ := y
  exact ⟨T, .int (i : Nat), x, h1, h2, h3, rfl, h4 xs q⟩
end Gr
set_option Elab.async false
set_option linter.all false
set_option maxRecDepth 100000
set_option maxHeartbeats 4000000
namespace Gr
open PySem PySem.Spec PyProof.Rows L2
open Vbwsar (Ground)
/-- what the top has written of SIGNS -/
structure TxtS (K : PySem.W.Frag) (mg : Str → Option Value) (aS : Addr) : Prop where
  g : mg "SIGNS" = some (.ref aS)
  sq : ∀ H, SqT K H aS (vn [46, 35, 58, 42, 79, 61])
abbrev sConts : Stmt := top 32
abbrev NConts : List Str := ["contents", "material", "sign", "water"]
theorem scConts : FnScope NConts [] (defScope sConts) := ⟨rfl, rfl, rfl, by decide +kernel, rfl, by decide +kernel, by decide +kernel⟩
/-- what a dict of signs tells: mf by sign -/
def ContF (H : Hp) (kvs : List (Key × V)) (mf : Nat → Option (Nat × Nat)) : Prop := ∀ c : Nat, match mf c with
  | none => valV kvs (Sum.inl (c : Int)) = none
  | some p => ∃ t, valV kvs (Sum.inl (c : Int)) = some (.ref t) ∧ H t = some (.tup [.int (p.1 : Int), .int (p.2 : Int)])
def Conts (H : Hp) (a : Addr) : Prop := ∃ kvs, H a = some (.dK kvs) ∧ ContF H kvs Vbwsar.meant
theorem ContF.same {H H' : Hp} {kvs : List (Key × V)} {mf : Nat → Option (Nat × Nat)} (h : ContF H kvs mf) (s : Same H H') : ContF H' kvs mf := fun c => by
  have := h c
  cases e : mf c with
  | none =>
    rw [e] at this
    exact this
  | some p =>
    rw [e] at this
    obtain ⟨t, a, b⟩ := this
    exact ⟨t, a, s _ _ b⟩
theorem ContF.keep {H H' : Hp} {a : Addr} {kvs kvs0 : List (Key × V)} {mf : Nat → Option (Nat × Nat)} (h : ContF H kvs mf) (ha : H a = some (.dK kvs0)) (s : ∀ b o, H b = some o → b ≠ a → H' b = some o) : ContF H' kvs mf := fun c => by
  have := h c
  cases e : mf c with
  | none =>
    rw [e] at this
    exact this
  | some p =>
    rw [e] at this
    obtain ⟨t, h1, h2⟩ := this
    exact ⟨t, h1, s _ _ h2 (ne_of h2 ha (by intro z; cases z))⟩
theorem ContF.put {H : Hp} {kvs : List (Key × V)} {mf mf' : Nat → Option (Nat × Nat)} {k : Nat} {p : Nat × Nat} {t : Addr} (h : ContF H kvs mf) (ht : H t = some (.tup [.int (p.1 : Int), .int (p.2 : Int)])) (e : ∀ c, mf' c = if c = k then some p else mf c) :
    ContF H (putK kvs (Sum.inl (k : Int)) (.ref t)) mf' := fun c => by
  rw [e c, valV_put]
  by_cases q : c = k
  · subst q
    rw [if_pos rfl, if_pos rfl]
    exact ⟨t, rfl, ht⟩
  · rw [if_neg q, if_neg (fun z => q (by injection z with z; omega))]
    exact h c
theorem putK_most {κ : Type} [DecidableEq κ] (c : List (κ × V)) (k : κ) (x : V) : (putK c k x).length ≤ c.length + 1 := by
  unfold putK
  split
  · rw [List.length_map]
    omega
  · rw [List.length_append]
    exact Nat.le_refl _
def fn1 (i c : Nat) : Option (Nat × Nat) := if Vbwsar.SIGNS.findIdx (fun x => x == c) < i ∧ Vbwsar.SIGNS.findIdx (fun x => x == c) < 6 then some (Vbwsar.SIGNS.findIdx (fun x => x == c), 0) else none
def fn2 (i c : Nat) : Option (Nat × Nat) := if 49 ≤ c ∧ c < 49 + i then some (0, c - 48) else fn1 6 c
theorem fn1_zero (c : Nat) : fn1 0 c = none := if_neg (fun h => Nat.not_lt_zero _ h.1)
theorem fn2_zero (c : Nat) : fn2 0 c = fn1 6 c := if_neg (by omega)
theorem sign_ix : ∀ c i : Nat, i < 6 → (Vbwsar.SIGNS.findIdx (fun x => x == c) = i ↔ c = [46, 35, 58, 42, 79, 61].getD i 0) := by
  intro c i hi
  have z : Vbwsar.SIGNS.findIdx (fun x => x == c) = if c = 46 then 0 else if c = 35 then 1 else if c = 58 then 2 else if c = 42 then 3 else if c = 79 then 4 else if c = 61 then 5 else 6 := by
    unfold Vbwsar.SIGNS
    simp only [List.findIdx_cons, List.findIdx_nil]
    by_cases a0 : c = 46
    · subst a0; rfl
    by_cases a1 : c = 35
    · subst a1; rfl
    by_cases a2 : c = 58
    · subst a2; rfl
    by_cases a3 : c = 42
    · subst a3; rfl
    by_cases a4 : c = 79
    · subst a4; rfl
    by_cases a5 : c = 61
    · subst a5; rfl
    have b : ∀ n, ¬ c = n → (n == c) = false := fun n h => beq_eq_false_iff_ne.mpr fun e => h e.symm
    rw [b _ a0, b _ a1, b _ a2, b _ a3, b _ a4, b _ a5, if_neg a0, if_neg a1, if_neg a2, if_neg a3, if_neg a4, if_neg a5]
    rfl
  rw [z]
  match i, hi with
  | 0, _ => show _ ↔ c = 46; (repeat' split) <;> omega
  | 1, _ => show _ ↔ c = 35; (repeat' split) <;> omega
  | 2, _ => show _ ↔ c = 58; (repeat' split) <;> omega
  | 3, _ => show _ ↔ c = 42; (repeat' split) <;> omega
  | 4, _ => show _ ↔ c = 79; (repeat' split) <;> omega
  | 5, _ => show _ ↔ c = 61; (repeat' split) <;> omega
theorem fn1_step {i : Nat} (hi : i < 6) (c : Nat) : fn1 (i + 1) c = if c = [46, 35, 58, 42, 79, 61].getD i 0 then some (i, 0) else fn1 i c := by
  have s := sign_ix c i hi
  unfold fn1
  generalize Vbwsar.SIGNS.findIdx (fun x => x == c) = j at s
  by_cases e : j = i
  · rw [if_pos (s.mp e), if_pos ⟨by omega, by omega⟩, e]
  · rw [if_neg (fun z => e (s.mpr z))]
    by_cases q : j < i ∧ j < 6
    · rw [if_pos q, if_pos ⟨by omega, q.2⟩]
    · rw [if_neg q, if_neg (by omega)]
theorem fn2_step {i : Nat} (c : Nat) : fn2 (i + 1) c = if c = 49 + i then some (0, i + 1) else fn2 i c := by
  unfold fn2
  by_cases e : c = 49 + i
  · rw [if_pos e, if_pos (by omega)]
    congr 2
    omega
  · rw [if_neg e]
    by_cases q : 49 ≤ c ∧ c < 49 + i
    · rw [if_pos q, if_pos (by omega)]
    · rw [if_neg q, if_neg (by omega)]
theorem fn2_all (c : Nat) : fn2 8 c = Vbwsar.meant c := by
  unfold fn2 Vbwsar.meant Vbwsar.AIR
  by_cases q : 49 ≤ c ∧ c ≤ 56
  · rw [if_pos q, if_pos (by omega)]
  · rw [if_neg q, if_neg (by omega)]
    unfold fn1
    dsimp only
    by_cases z : Vbwsar.SIGNS.findIdx (fun x => x == c) < 6
    · rw [if_pos ⟨z, z⟩]
      exact (if_pos z).symm
    · rw [if_neg (fun h => z h.2)]
      exact (if_neg z).symm
def spConts : Sp := fun vs H Q _ => vs = [] ∧ ∀ H' p, Same H H' → H p = none → Conts H' p → Q (.ref p) H'
section
variable {P : Program} {w : World} {K : PySem.W.Frag} {mg : Str → Option Value} {base : Heap} {CL CG aS : Addr}
theorem ok_conts {f : Addr} {fd : FuncData} (F : Fun K "contents_by_sign" "contents_by_sign" sConts f fd) (T : Txt K mg CL CG) (TS : TxtS K mg aS) : FnOk P w K mg base CX0 1 f fd [] spConts := by
  refine F.ok scConts (fun vs H Q E h => ?_) (fun cdv A outer s H vs Q E hr h => ?_)
  · obtain ⟨rfl, _⟩ := h
    rfl
  · have hu := hu_of hr
    refine ⟨_, pss_cons (ps_set (i := 0) scConts.nd rfl (Or.inl rfl) pe_dnewK)
      (pss_cons (ps_for PassesOwn.never rfl (pi_enumT (by rfl) T.nenum (pa_cons (pe_glob (v := V.ref aS) (by rfl) TS.g rfl) pa_nil)) (pg_tup rfl (pgs_cons (pg_name (i := 1) scConts.nd rfl (Or.inl rfl)) (pgs_cons (pg_name (i := 2) scConts.nd rfl (Or.inl rfl)) pgs_nil)))
        (pss_one (ps_dput hu (pv 0) (pv 2) (pe_tup (pa_cons (pv 1) (pa_cons pe_int pa_nil))) rfl)))
      (pss_cons (ps_for PassesOwn.never rfl (pi_range2 (by rfl) T.nrange (pa_cons pe_int (pa_cons (pe_op op_add (pe_gi T.gMOST) pe_int) pa_nil))) (pg_name (i := 3) scConts.nd rfl (Or.inl rfl))
        (pss_one (ps_dput hu (pv 0) (pe_op op_add (pe_gi T.gNOW) (pv 3)) (pe_tup (pa_cons pe_int (pa_cons (pv 3) pa_nil))) rfl)))
      (pss_one (ps_ret (pv 0))))), ?_⟩
    obtain ⟨rfl, q⟩ := h
    have small : ∀ n, n ≤ 1000 → n < sizeLine := fun n h => small1000 h
    intro p hp
    refine ⟨aS, _, rfl, TS.sq _, ?_⟩
    refine for_it walk_enumT (fun i σ H' => ∃ c1 c2 c3 kvs, σ = [some (.ref p), c1, c2, c3] ∧ Same H H' ∧ H' p = some (.dK kvs) ∧ kvs.length ≤ i ∧ ContF H' kvs (fn1 i))
      ⟨_, _, _, [], rfl, same_new hp, upd_same, Nat.le_refl _, fun c => by rw [fn1_zero]; rfl⟩ (fun i σ H' _ _ => TS.sq _) ?_ ?_
    · rintro i x σ H1 H2 hi ⟨c1, c2, c3, kvs, rfl, s1, e1, l1, k1⟩ ⟨t, x1, x2, rfl, ht, rfl, h1, h2⟩
      injection h1 with h1
      subst h1
      have hi : i < 6 := hi
      have h2 : (vn [46, 35, 58, 42, 79, 61])[i]? = some x2 := h2
      obtain ⟨y, hy, rfl⟩ := at_vn h2
      have yv : y = [46, 35, 58, 42, 79, 61].getD i 0 := by
        rw [List.getD_eq_getElem?_getD, hy]
        rfl
      have s2 : Same H1 (upd H1 t (.tup [.int (i : Int), .int (y : Int)])) := same_new ht
      refine ⟨t, _, rfl, SqT.of upd_same, rfl, _, _, rfl, _, _, rfl, rfl, ?_⟩
      refine ⟨_, rfl, (by show 2 ≤ sizeLine; decide), fun u hu2 => ?_⟩
      generalize g3 : upd (upd H1 t _) u _ = H3
      obtain ⟨s3, e3⟩ := newS hu2 g3
      have s13 := s2.trans s3
      refine ⟨_, rfl, _, rfl, p, _, rfl, DPut.k (k := Sum.inl (y : Int)) (s13 _ _ e1) (small _ (by omega)), ?_⟩
      have pu : u ≠ p := (ne_of_none (s2 _ _ e1) hu2).symm
      refine ⟨_, _, _, _, rfl, same_upd (s1.trans s13) hp, upd_same, Nat.le_trans (putK_most _ _ _) (by omega), ?_⟩
      have k3 := (k1.same s13).put (mf' := fn1 (i + 1)) (k := y) (p := (i, 0)) e3 (fun c => by rw [yv]; exact fn1_step hi c)
      exact k3.keep (s13 _ _ e1) fun b o e n => by
        rw [upd_ne n]
        exact e
    · rintro σ H1 ⟨c1, c2, c3, kvs, rfl, s1, e1, l1, k1⟩
      have l1 : kvs.length ≤ 6 := l1
      have k1 : ContF H1 kvs (fn1 6) := k1
      refine ⟨_, _, rfl, rfl, 1, 8 + 1, rfl, ⟨by decide, by decide, by decide, by decide⟩, for_range (lo := 1) (n := 8) (fun i σ H' => ∃ c1 c2 c3 kvs, σ = [some (.ref p), c1, c2, c3] ∧ Same H H' ∧ H' p = some (.dK kvs) ∧ kvs.length ≤ 6 + i ∧ ContF H' kvs (fn2 i))
        ⟨_, _, _, kvs, rfl, s1, e1, l1, fun c => by rw [fn2_zero]; exact k1 c⟩ ?_ ?_⟩
      · rintro i σ H2 hi ⟨c1, c2, c3, kvs2, rfl, s2, e2, l2, k2⟩
        refine ⟨_, rfl, (by show 2 ≤ sizeLine; decide), fun u hu2 => ?_⟩
        generalize g3 : upd H2 u _ = H3
        obtain ⟨s3, e3⟩ := newS hu2 g3
        have ei : (1 : Int) + (i : Int) = ((i + 1 : Nat) : Int) := by omega
        rw [ei] at e3
        refine ⟨_, rfl, _, rfl, _, _, rfl, rfl, ?_⟩
        have ek : (48 : Int) + (1 + (i : Int)) = ((49 + i : Nat) : Int) := by omega
        rw [show (fun i j : Int => V.int (i + j)) 48 (1 + (i : Int)) = V.int ((49 + i : Nat) : Int) from congrArg V.int ek]
        refine ⟨p, _, rfl, DPut.k (k := Sum.inl ((49 + i : Nat) : Int)) (s3 _ _ e2) (small _ (by omega)), ?_⟩
        refine ⟨_, _, _, _, rfl, same_upd (s2.trans s3) hp, upd_same, Nat.le_trans (putK_most _ _ _) (by omega), ?_⟩
        have k3 := (k2.same s3).put (mf' := fn2 (i + 1)) (k := 49 + i) (p := (0, i + 1)) e3 (fun c => fn2_step c)
        exact k3.keep (s3 _ _ e2) fun b o e n => by
          rw [upd_ne n]
          exact e
      · rintro σ H2 ⟨c1, c2, c3, kvs2, rfl, s2, e2, l2, k2⟩
        refine ⟨_, rfl, q H2 p s2 hp ⟨kvs2, e2, fun c => ?_⟩⟩
        have := k2 c
        rw [fn2_all] at this
        exact this
end
end Gr
set_option linter.all false
set_option maxHeartbeats 1000000
namespace Gr
open Vbwsar
open GT (WT at0 write_wt same_iff lightOf lightOf_is IsLight LF Alike Down relit_light)
/-! # What the calls tell, from the lists -/
def signM (m w : List Nat) (k : Nat) : Nat := if 0 < w.getD k 0 then 48 + w.getD k 0 else SIGNS.getD (m.getD k 0) 46
def rowM (g : Ground) (m w : List Nat) (z y : Nat) : List Nat := ((List.range g.sx).map fun x => signM m w ((z * g.sy + y) * g.sx + x)) ++ [10]
def layTextM (g : Ground) (m w : List Nat) (z : Nat) : List Nat := ((List.range g.sy).flatMap fun y => rowM g m w z y) ++ [10]
def textM (g : Ground) (m w : List Nat) : List Nat := (List.range g.sz).flatMap fun z => layTextM g m w z
theorem sign_is {g s : Ground} {m w : List Nat} (h : Holds g s m w) (k : Nat) : signOf s k = signM m w k := by
  unfold signOf signM
  rw [h.em, h.ew]
theorem text_is {g s : Ground} {m w : List Nat} (h : Holds g s m w) : groundText s = textM g m w := by
  unfold groundText textM layTextM rowText rowM
  rw [h.dim.x, h.dim.y, h.dim.z]
  have e : ∀ z y x, signOf s (keyOf s ⟨x, y, z⟩) = signM m w ((z * g.sy + y) * g.sx + x) := fun z y x => by
    rw [sign_is h, h.dim.key]
    rfl
  simp only [e]
theorem map_getD (l : List Nat) : (List.range l.length).map (fun k => l.getD k 0) = l := by
  refine List.ext_getElem (by simp) fun i h1 h2 => ?_
  rw [List.getElem_map, List.getElem_range, List.getD_eq_getElem?_getD, List.getElem?_eq_getElem h2]
  rfl
theorem water_is {g s : Ground} {m w : List Nat} (h : Holds g s m w) : allWater s = Vbwsar.sum w := by
  unfold allWater
  have e : waterAt s = fun k => w.getD k 0 := funext h.ew
  rw [h.dim.keys, ← h.wl, e, map_getD]
theorem filter_map_len {p : Nat → Bool} (l : List Nat) : ((List.range l.length).filter fun k => p (l.getD k 0)).length = (l.filter p).length := by
  conv => rhs; rw [← map_getD l, List.filter_map, List.length_map]
  rfl
theorem many_is {g s : Ground} {m w : List Nat} (h : Holds g s m w) (v : Nat) : howMany s v = (m.filter fun x => x == v).length := by
  unfold howMany
  have e : (fun k => matAt s k == v) = fun k => m.getD k 0 == v := funext fun k => by rw [h.em]
  rw [h.dim.keys, ← h.ml, e]
  exact filter_map_len (p := fun x => x == v) m
/-! ## wood that is not held -/
theorem held_list {g s : Ground} {m w : List Nat} (h : Holds g s m w) (n : Nat) : Vbwsar.held s n = (List.range (Vbwsar.size g)).filter (hb g m n) := by
  have e : ∃ p, Vbwsar.held s n = (List.range (Vbwsar.size g)).filter p := by
    cases n with
    | zero =>
      unfold Vbwsar.held
      rw [h.dim.keys]
      exact ⟨_, rfl⟩
    | succ n =>
      unfold Vbwsar.held heldRound
      rw [h.dim.keys]
      exact ⟨_, rfl⟩
  obtain ⟨p, e⟩ := e
  rw [e]
  refine List.filter_congr fun k hk => ?_
  have a := held_is h n k
  rw [e, List.mem_filter] at a
  have hk' := List.mem_range.mp hk
  rw [Bool.eq_iff_iff]
  exact ⟨fun q => (a.mp ⟨hk, q⟩).2, fun q => (a.mpr ⟨hk', q⟩).2⟩
/-- wood that is not held -/
def hangM (g : Ground) (m : List Nat) (k : Nat) : Bool := m.getD k 0 == 5 && !hb g m 4 k
theorem two_parts {p q : Nat → Bool} (hpq : ∀ k, q k = true → p k = true) : ∀ l : List Nat, (l.filter p).length = (l.filter q).length + (l.filter fun k => p k && !q k).length
  | [] => rfl
  | a :: l => by
    have ih := two_parts hpq l
    rw [List.filter_cons, List.filter_cons, List.filter_cons]
    cases hp : p a with
    | false =>
      have hq : q a = false := by
        cases c : q a with
        | false => rfl
        | true =>
          have := hpq a c
          rw [hp] at this
          cases this
      rw [hq]
      exact ih
    | true =>
      cases hq : q a with
      | false => 
        simp [ih]
        omega
      | true =>
        simp [ih]
        omega
theorem hang_count {g s : Ground} {m w : List Nat} (h : Holds g s m w) : howMany s WOOD - (Vbwsar.held s HANG).length = ((List.range (Vbwsar.size g)).filter (hangM g m)).length := by
  rw [held_list h]
  unfold howMany
  rw [h.dim.keys]
  have e : ((List.range (Vbwsar.size g)).filter fun k => matAt s k == WOOD) = (List.range (Vbwsar.size g)).filter fun k => m.getD k 0 == 5 := by
    refine List.filter_congr fun k _ => ?_
    rw [h.em]
    rfl
  rw [e, two_parts (p := fun k => m.getD k 0 == 5) (q := hb g m HANG) (fun k q => by
    rw [beq_iff_eq]
    exact hb_wood q)]
  unfold hangM HANG
  omega
theorem hang_list {g s : Ground} {m w : List Nat} (h : Holds g s m w) : ((keys s).filter fun k => Vbwsar.loose s (Vbwsar.held s HANG) k && matAt s k == WOOD) = (List.range (Vbwsar.size g)).filter (hangM g m) := by
  rw [h.dim.keys]
  refine List.filter_congr fun k hk => ?_
  rw [loose_is h (List.mem_range.mp hk), h.em]
  unfold looseM hangM WOOD
  cases c : m.getD k 0 == 5 with
  | false => simp
  | true =>
    rw [beq_iff_eq.mp c]
    simp
/-! ## light -/
theorem light_is {s : Ground} (h : Lit s) (k : Nat) : lightAt s k = lightOf s k := h.lit k
theorem light_step {g : Ground} {L : Nat → Nat} (h : IsLight g L) {k : Nat} (hk : k < Vbwsar.size g) (h0 : L k ≠ 0) (hs : source g k ≠ L k) : ∃ j ∈ around g k, L j = L k + 1 := by
  have a := h.rule k hk
  have g1 : L k ≤ LF g L k := by omega
  rw [GT.LF_ge (by omega)] at g1
  obtain ⟨c, d | ⟨j, b, e⟩⟩ := g1
  · have : source g k ≤ LF g L k := by
      by_cases z : source g k = 0
      · omega
      · rw [GT.LF_ge (by omega)]
        exact ⟨c, .inl (Nat.le_refl _)⟩
    omega
  · refine ⟨j, b, ?_⟩
    have : L j - 1 ≤ LF g L k := by
      rw [GT.LF_ge (by omega)]
      exact ⟨c, .inr ⟨j, b, by omega⟩⟩
    omega
theorem light_clear {g : Ground} {L : Nat → Nat} (h : IsLight g L) {k : Nat} (h0 : L k ≠ 0) : k < Vbwsar.size g ∧ clear (matAt g k) = true := by
  by_cases hk : k < Vbwsar.size g
  · refine ⟨hk, ?_⟩
    have a := h.rule k hk
    unfold LF at a
    by_cases c : clear (matAt g k) = false
    · rw [if_pos c] at a
      exact absurd a h0
    · simpa using c
  · exact absurd (h.out k (by omega)) h0
theorem source_light {g : Ground} {L : Nat → Nat} (h : IsLight g L) {k : Nat} (hk : k < Vbwsar.size g) (c : clear (matAt g k) = true) : source g k ≤ L k := by
  by_cases z : source g k = 0
  · omega
  · rw [h.rule k hk, GT.LF_ge (by omega)]
    exact ⟨c, .inl (Nat.le_refl _)⟩
/-- the trail, of a cell with light, by what is next in it -/
def nextM (g : Ground) (L : Nat → Nat) (k : Nat) : Option Nat := if source g k = L k then none else (around g k).find? fun j => L j == L k + 1
def pathM (g : Ground) (L : Nat → Nat) : Nat → Nat → List Nat
  | 0, k => [k]
  | n + 1, k => match nextM g L k with
    | none => [k]
    | some j => k :: pathM g L n j
theorem next_lit {g : Ground} {L : Nat → Nat} {k j : Nat} (h : nextM g L k = some j) : L j = L k + 1 ∧ j ∈ around g k := by
  unfold nextM at h
  split at h
  · cases h
  · exact ⟨by simpa using List.find?_some h, List.mem_of_find?_eq_some h⟩
theorem trail_is {s : Ground} (h : Lit s) : ∀ (n k : Nat), lightOf s k ≠ 0 → trail s n k = pathM s (lightOf s) n k
  | 0, k, _ => rfl
  | n + 1, k, h0 => by
    unfold trail pathM nextM
    rw [light_is h, if_neg h0]
    have e : (fun j => lightAt s j == lightOf s k + 1) = fun j => lightOf s j == lightOf s k + 1 := by
      funext j
      rw [light_is h]
    rw [e]
    by_cases c : source s k = lightOf s k
    · rw [if_pos c, if_pos c]
    · rw [if_neg c, if_neg c]
      cases f : (around s k).find? fun j => lightOf s j == lightOf s k + 1 with
      | none => rfl
      | some j =>
        dsimp only
        have := List.find?_some f
        rw [beq_iff_eq] at this
        rw [trail_is h n j (by omega)]
theorem trail_dark {s : Ground} (h : Lit s) {n k : Nat} (h0 : lightOf s k = 0) : trail s (n + 1) k = [] := by
  unfold trail
  rw [light_is h, if_pos h0]
/-- the way ends where the light is its own, and so long it is at most -/
theorem next_some {g : Ground} {L : Nat → Nat} (h : IsLight g L) {k : Nat} (h0 : L k ≠ 0) (n : nextM g L k = none) : source g k = L k := by
  unfold nextM at n
  split at n
  · assumption
  · rename_i c
    obtain ⟨j, a, b⟩ := light_step h (light_clear h h0).1 h0 c
    rw [List.find?_eq_none] at n
    exact absurd (by rw [b]; exact beq_self_eq_true _) (n j a)
theorem path_more {g : Ground} {L : Nat → Nat} (h : IsLight g L) : ∀ (n k : Nat), 15 ≤ L k + n → pathM g L (n + 1) k = pathM g L n k
  | 0, k, hk => by
    have e : nextM g L k = none := by
      cases c : nextM g L k with
      | none => rfl
      | some j =>
        have a := (next_lit c).1
        have b := h.most j
        omega
    show (match nextM g L k with | none => [k] | some j => k :: pathM g L 0 j) = [k]
    rw [e]
  | n + 1, k, hk => by
    conv => lhs; unfold pathM
    conv => rhs; unfold pathM
    cases c : nextM g L k with
    | none => rfl
    | some j =>
      dsimp only
      have a := (next_lit c).1
      rw [path_more h n j (by omega)]
end Gr
set_option linter.all false
set_option maxHeartbeats 1000000
namespace Gr
open Vbwsar
open GT (WT at0 lightOf lightOf_is IsLight LF)
/-! # The program's way to the light, over lists -/
def clrM (m : List Nat) (k : Nat) : Bool := m.getD k 0 == 0 || (m.getD k 0 == 3 || m.getD k 0 == 4)
theorem clr_is {g : Ground} {m : List Nat} (em : ∀ k, matAt g k = m.getD k 0) (k : Nat) : clear (matAt g k) = clrM m k := by
  unfold clear clrM AIR GLASS LAMP
  rw [em]
  cases m.getD k 0 == 0 <;> cases m.getD k 0 == 3 <;> cases m.getD k 0 == 4 <;> rfl
/-! ## Under the sky -/
theorem openUp_step {g : Ground} {k : Nat} (hk : k < size g) : openUp g g.sz k = match above g k with | none => true | some j => clear (matAt g j) && openUp g g.sz j := by
  obtain ⟨x, y, z, hx, hy, hz, rfl⟩ := GT.coords hk
  rw [GT.above_key hx hy]
  by_cases c : z + 1 < g.sz
  · rw [if_pos c]
    dsimp only
    rw [Bool.eq_iff_iff, Bool.and_eq_true, GT.openUp_key hx hy, GT.openUp_key hx hy]
    constructor
    · intro h
      exact ⟨h (z + 1) (by omega) (by omega) c, fun z' a b d => h z' (by omega) (by omega) d⟩
    · rintro ⟨h1, h2⟩ z' a b d
      by_cases e : z' = z + 1
      · subst e
        exact h1
      · exact h2 z' (by omega) (by omega) d
  · rw [if_neg c]
    dsimp only
    rw [GT.openUp_key hx hy]
    intro z' a b d
    omega
theorem above_below {g : Ground} {k j : Nat} (hk : k < size g) (hj : j < size g) : above g k = some j ↔ below g j = some k := by
  obtain ⟨x, y, z, hx, hy, hz, rfl⟩ := GT.coords hk
  obtain ⟨x', y', z', hx', hy', hz', rfl⟩ := GT.coords hj
  rw [GT.above_key hx hy, GT.below_key hx' hy']
  constructor
  · intro h
    split at h
    · injection h with h
      obtain ⟨rfl, rfl, rfl⟩ := GT.key_inj hx hy hx' hy' h
      rw [if_pos (by omega), Nat.add_sub_cancel]
    · cases h
  · intro h
    split at h
    · injection h with h
      obtain ⟨rfl, rfl, rfl⟩ := GT.key_inj hx' hy' hx hy h
      have e : z' - 1 + 1 = z' := by omega
      rw [if_pos (by omega), e]
    · cases h
theorem above_gt {g : Ground} {k j : Nat} (hk : k < size g) (h : above g k = some j) : k < j ∧ j < size g := by
  obtain ⟨x, y, z, hx, hy, hz, rfl⟩ := GT.coords hk
  rw [GT.above_key hx hy] at h
  split at h
  · rename_i c
    injection h with h
    subst h
    have a := GT.key_lt hx hy c
    refine ⟨?_, a⟩
    exact GT.below_lt a (by rw [GT.below_key hx hy, if_pos (by omega), Nat.add_sub_cancel])
  · cases h
/-- a turn of open_cells: from the last cell on -/
def openStep (g : Ground) (m : List Nat) (o : List Bool) (c : Nat) : List Bool := match below g c with
  | none => o
  | some j => if (o.getD c true && clrM m c) = true then o else o.set j false
def openTo (g : Ground) (m : List Nat) (i : Nat) : List Bool := (List.range i).foldl (fun o t => openStep g m o (size g - 1 - t)) (List.replicate (size g) true)
theorem openStep_len {g : Ground} {m : List Nat} {o : List Bool} {c : Nat} : (openStep g m o c).length = o.length := by
  unfold openStep
  split
  · rfl
  · split
    · rfl
    · rw [List.length_set]
theorem openTo_more {g : Ground} {m : List Nat} {i : Nat} : openTo g m (i + 1) = openStep g m (openTo g m i) (size g - 1 - i) := by
  unfold openTo
  rw [range_more, List.foldl_append]
  rfl
theorem openTo_len {g : Ground} {m : List Nat} : ∀ i, (openTo g m i).length = size g
  | 0 => List.length_replicate ..
  | i + 1 => by
    rw [openTo_more, openStep_len]
    exact openTo_len i
theorem getB_set {o : List Bool} {i j : Nat} {v : Bool} : (o.set i v).getD j true = if i = j ∧ j < o.length then v else o.getD j true := by
  rw [List.getD_eq_getElem?_getD, List.getElem?_set, List.getD_eq_getElem?_getD]
  by_cases e : i = j
  · subst e
    rw [if_pos rfl]
    by_cases h : i < o.length
    · rw [if_pos h, if_pos ⟨rfl, h⟩]
      rfl
    · rw [if_neg h, if_neg (fun q => h q.2), List.getElem?_eq_none (by omega)]
  · rw [if_neg e, if_neg (fun q => e q.1)]
/-- what is told of a cell when those from the last to i have been gone through -/
def openIf (g : Ground) (i k : Nat) : Bool := match above g k with
  | none => true
  | some j => if size g - i ≤ j then openUp g g.sz k else true
theorem openTo_is {g : Ground} {m : List Nat} (em : ∀ k, matAt g k = m.getD k 0) : ∀ i, i ≤ size g → ∀ k, k < size g → (openTo g m i).getD k true = openIf g i k
  | 0, _, k, hk => by
    unfold openTo openIf
    rw [List.range_zero, List.foldl_nil]
    have : (List.replicate (size g) true).getD k true = true := by
      rw [List.getD_eq_getElem?_getD, List.getElem?_replicate, if_pos hk]
      rfl
    rw [this]
    cases e : above g k with
    | none => rfl
    | some j =>
      dsimp only
      rw [if_neg]
      have := (above_gt hk e).2
      omega
  | i + 1, hi, k, hk => by
    have ih := openTo_is em i (by omega)
    rw [openTo_more]
    have hc : size g - 1 - i < size g := by omega
    have full : (openTo g m i).getD (size g - 1 - i) true = openUp g g.sz (size g - 1 - i) := by
      rw [ih _ hc]
      unfold openIf
      rw [openUp_step hc]
      cases e : above g (size g - 1 - i) with
      | none => rfl
      | some j =>
        dsimp only
        have := (above_gt hc e).1
        rw [if_pos (by omega)]
    unfold openStep
    rw [full, ← clr_is em]
    generalize hcc : size g - 1 - i = c at *
    have key : ∀ j, above g k = some j → (size g - (i + 1) ≤ j ↔ size g - i ≤ j ∨ j = c) := fun j e => by omega
    cases e : below g c with
    | none =>
      dsimp only
      rw [ih k hk]
      unfold openIf
      cases f : above g k with
      | none => rfl
      | some j =>
        dsimp only
        have nj : j ≠ c := fun q => by
          subst q
          have := (above_below hk hc).mp f
          rw [e] at this
          cases this
        have := key j f
        by_cases q : size g - i ≤ j
        · rw [if_pos q, if_pos (this.mpr (.inl q))]
        · rw [if_neg q, if_neg (fun z => by
            rcases this.mp z with z | z
            · exact q z
            · exact nj z)]
    | some b =>
      dsimp only
      have hb : b < size g := GT.around_lt hc (GT.below_around e)
      have ab : above g b = some c := (above_below hb hc).mpr e
      have other : k ≠ b → openIf g i k = openIf g (i + 1) k := fun n => by
        unfold openIf
        cases f : above g k with
        | none => rfl
        | some j =>
          dsimp only
          have nj : j ≠ c := fun q => by
            subst q
            have := (above_below hk hc).mp f
            rw [e] at this
            exact n (Option.some.inj this).symm
          have := key j f
          by_cases q : size g - i ≤ j
          · rw [if_pos q, if_pos (this.mpr (.inl q))]
          · rw [if_neg q, if_neg (fun z => by
              rcases this.mp z with z | z
              · exact q z
              · exact nj z)]
      have here : openIf g i b = true ∧ openIf g (i + 1) b = (openUp g g.sz c && clear (matAt g c)) := by
        unfold openIf
        rw [ab]
        dsimp only
        rw [if_neg (by omega), if_pos (by omega), openUp_step hb, ab]
        exact ⟨rfl, Bool.and_comm ..⟩
      by_cases z : (openUp g g.sz c && clear (matAt g c)) = true
      · rw [if_pos z, ih k hk]
        by_cases n : k = b
        · subst n
          rw [here.1, here.2, z]
        · exact other n
      · rw [if_neg z, getB_set]
        by_cases n : k = b
        · subst n
          rw [if_pos ⟨rfl, by rw [openTo_len]; exact hk⟩, here.2]
          exact (Bool.eq_false_iff.mpr z).symm
        · rw [if_neg (fun q => n q.1.symm), ih k hk]
          exact other n
theorem open_is {g : Ground} {m : List Nat} (em : ∀ k, matAt g k = m.getD k 0) {k : Nat} (hk : k < size g) : (openTo g m (size g)).getD k true = openUp g g.sz k := by
  rw [openTo_is em _ (Nat.le_refl _) k hk]
  unfold openIf
  rw [openUp_step hk]
  cases e : above g k with
  | none => rfl
  | some j =>
    dsimp only
    rw [if_pos (by omega)]
/-! ## Own light -/
def ownV (v : Nat) (o : Bool) : Nat := if (v == 0 || (v == 3 || v == 4)) = false then 0 else if o = true then 15 else if v = 3 then 14 else 0
def ownsM (g : Ground) (m : List Nat) : List Nat := (List.range (size g)).map fun k => ownV (m.getD k 0) ((openTo g m (size g)).getD k true)
theorem owns_len {g : Ground} {m : List Nat} : (ownsM g m).length = size g := by
  unfold ownsM
  rw [List.length_map, List.length_range]
theorem own_is {g : Ground} {m : List Nat} (em : ∀ k, matAt g k = m.getD k 0) {k : Nat} (hk : k < size g) : (ownsM g m).getD k 0 = source g k := by
  have e : (ownsM g m).getD k 0 = ownV (m.getD k 0) ((openTo g m (size g)).getD k true) := by
    unfold ownsM
    rw [List.getD_eq_getElem?_getD, List.getElem?_map, List.getElem?_range hk]
    rfl
  rw [e, open_is em hk]
  unfold ownV source skyLit SUN GLOW LAMP
  have c := clr_is em k
  unfold clrM at c
  rw [c, em k]
  cases q : (m.getD k 0 == 0 || (m.getD k 0 == 3 || m.getD k 0 == 4)) with
  | false =>
    rw [if_pos rfl, Bool.false_and, if_neg (by decide), if_neg]
    intro z
    rw [z] at q
    cases q
  | true =>
    rw [if_neg (by decide), Bool.true_and]
/-! ## The light, from the brightest on -/
def nearStep (m : List Nat) (b : Nat) (l : List Nat) (n : Nat) : List Nat := if clrM m n = true then l.set n (max (l.getD n 0) (b - 1)) else l
def srcStep (g : Ground) (m : List Nat) (b : Nat) (l : List Nat) (k : Nat) : List Nat := (around g k).foldl (nearStep m b) l
def srcs (b : Nat) (l : List Nat) : List Nat := (List.range l.length).filter fun k => l.getD k 0 == b
def levelM (g : Ground) (m : List Nat) (l : List Nat) (b : Nat) : List Nat := (srcs b l).foldl (srcStep g m b) l
def lightsM (g : Ground) (m : List Nat) : List Nat := (List.range 14).foldl (fun l i => levelM g m l (15 - i)) (ownsM g m)
theorem nearStep_len {m : List Nat} {b : Nat} {l : List Nat} {n : Nat} : (nearStep m b l n).length = l.length := by
  unfold nearStep
  split
  · rw [List.length_set]
  · rfl
theorem nears_len {m : List Nat} {b : Nat} : ∀ (a l : List Nat), (a.foldl (nearStep m b) l).length = l.length
  | [], l => rfl
  | n :: a, l => by
    rw [List.foldl_cons, nears_len a, nearStep_len]
theorem srcs_len {g : Ground} {m : List Nat} {b : Nat} : ∀ (a l : List Nat), (a.foldl (srcStep g m b) l).length = l.length
  | [], l => rfl
  | n :: a, l => by
    rw [List.foldl_cons, srcs_len a]
    exact nears_len _ _
theorem levelM_len {g : Ground} {m l : List Nat} {b : Nat} : (levelM g m l b).length = l.length := srcs_len _ _
theorem levels_len {g : Ground} {m : List Nat} : ∀ (a l : List Nat), (a.foldl (fun l i => levelM g m l (15 - i)) l).length = l.length
  | [], l => rfl
  | n :: a, l => by
    rw [List.foldl_cons, levels_len a, levelM_len]
theorem lights_len {g : Ground} {m : List Nat} : (lightsM g m).length = size g := by
  unfold lightsM
  rw [levels_len, owns_len]
/-- what a step near does: nothing gets darker; what was told is kept; what is near and clear has b - 1 -/
theorem nears_is {m : List Nat} {b : Nat} : ∀ (a l : List Nat) (k : Nat), (∀ n ∈ a, n < l.length) →
    (a.foldl (nearStep m b) l).getD k 0 = if k ∈ a ∧ clrM m k = true then max (l.getD k 0) (b - 1) else l.getD k 0
  | [], l, k, _ => by rw [List.foldl_nil, if_neg (fun h => by cases h.1)]
  | n :: a, l, k, h => by
    rw [List.foldl_cons, nears_is a _ k (fun z hz => by rw [nearStep_len]; exact h z (List.mem_cons_of_mem _ hz))]
    have hn := h n (List.mem_cons_self ..)
    have e : (nearStep m b l n).getD k 0 = if k = n ∧ clrM m k = true then max (l.getD k 0) (b - 1) else l.getD k 0 := by
      unfold nearStep
      by_cases q : k = n
      · subst q
        by_cases c : clrM m k = true
        · rw [if_pos c, if_pos ⟨rfl, c⟩, getD_set_eq hn]
        · rw [if_neg c, if_neg (fun z => c z.2)]
      · rw [if_neg (c := k = n ∧ clrM m k = true) (fun z => q z.1)]
        split
        · rw [getD_set_ne (fun z => q z.symm)]
        · rfl
    rw [e]
    simp only [List.mem_cons]
    by_cases q : k = n <;> by_cases c : clrM m k = true <;> by_cases p : k ∈ a <;> simp [q, c, p] <;> (try subst q) <;> simp_all <;> omega
theorem srcs_is {g : Ground} {m : List Nat} {b : Nat} : ∀ (a l : List Nat) (k : Nat), (∀ n ∈ a, n < size g) → l.length = size g →
    (a.foldl (srcStep g m b) l).getD k 0 = if (∃ n ∈ a, k ∈ around g n) ∧ clrM m k = true then max (l.getD k 0) (b - 1) else l.getD k 0
  | [], l, k, _, _ => by rw [List.foldl_nil, if_neg (fun h => by obtain ⟨n, z, _⟩ := h.1; cases z)]
  | n :: a, l, k, h, hl => by
    have hn := h n (List.mem_cons_self ..)
    have e : (srcStep g m b l n).getD k 0 = if k ∈ around g n ∧ clrM m k = true then max (l.getD k 0) (b - 1) else l.getD k 0 := nears_is (around g n) l k (fun z hz => by rw [hl]; exact GT.around_lt hn hz)
    rw [List.foldl_cons, srcs_is a (srcStep g m b l n) k (fun z hz => h z (List.mem_cons_of_mem _ hz)) ((nears_len _ _).trans hl), e]
    have ex : (∃ x ∈ n :: a, k ∈ around g x) ↔ k ∈ around g n ∨ ∃ x ∈ a, k ∈ around g x := by
      constructor
      · rintro ⟨x, hx, y⟩
        rcases List.mem_cons.mp hx with z | z
        · subst z
          exact .inl y
        · exact .inr ⟨x, z, y⟩
      · rintro (y | ⟨x, hx, y⟩)
        · exact ⟨n, List.mem_cons_self .., y⟩
        · exact ⟨x, List.mem_cons_of_mem _ hx, y⟩
    simp only [ex]
    by_cases q : k ∈ around g n <;> by_cases c : clrM m k = true <;> by_cases p' : (∃ x, x ∈ a ∧ k ∈ around g x) <;> simp only [q, c, p', and_self, and_true, and_false, true_or, or_true, or_self, if_true, if_false, Nat.max_assoc, Nat.max_self, Bool.false_eq_true, true_and, false_and, or_false, false_or]
theorem mem_srcs {b : Nat} {l : List Nat} {k : Nat} : k ∈ srcs b l ↔ k < l.length ∧ l.getD k 0 = b := by
  unfold srcs
  rw [List.mem_filter, List.mem_range, beq_iff_eq]
/-- behind the levels from the brightest to b -/
structure LInv (g : Ground) (L : Nat → Nat) (b : Nat) (l : List Nat) : Prop where
  len : l.length = size g
  own : ∀ k, k < size g → source g k ≤ l.getD k 0 ∨ clear (matAt g k) = false
  le : ∀ k, k < size g → l.getD k 0 ≤ L k
  eq : ∀ k, k < size g → b ≤ L k → l.getD k 0 = L k
theorem LInv.step {g : Ground} {m : List Nat} {L : Nat → Nat} (em : ∀ k, matAt g k = m.getD k 0) (hL : IsLight g L) {b : Nat} {l : List Nat} (h : LInv g L b l) (hb : 2 ≤ b) : LInv g L (b - 1) (levelM g m l b) := by
  have src : ∀ n ∈ srcs b l, n < size g := fun n hn => by
    rw [← h.len]
    exact (mem_srcs.mp hn).1
  have is : ∀ k, (levelM g m l b).getD k 0 = _ := fun k => srcs_is (srcs b l) l k src h.len
  have Lsrc : ∀ n, n ∈ srcs b l ↔ n < size g ∧ L n = b := fun n => by
    rw [mem_srcs, h.len]
    constructor
    · rintro ⟨a, e⟩
      have := h.le n a
      have q := h.eq n a (by omega)
      exact ⟨a, by omega⟩
    · rintro ⟨a, e⟩
      exact ⟨a, by rw [h.eq n a (by omega)]; exact e⟩
  refine ⟨levelM_len.trans h.len, fun k hk => ?_, fun k hk => ?_, fun k hk hv => ?_⟩
  · rcases h.own k hk with q | q
    · refine .inl ?_
      rw [is]
      split
      · omega
      · exact q
    · exact .inr q
  · rw [is]
    by_cases c : (∃ n ∈ srcs b l, k ∈ around g n) ∧ clrM m k = true
    · rw [if_pos c]
      obtain ⟨⟨n, hn, hk'⟩, cc⟩ := c
      have hn' := (Lsrc n).mp hn
      have : b - 1 ≤ L k := by
        rw [hL.rule k hk, GT.LF_ge (by omega)]
        exact ⟨by rw [clr_is em]; exact cc, .inr ⟨n, GT.around_symm hn'.1 hk', by omega⟩⟩
      have := h.le k hk
      omega
    · rw [if_neg c]
      exact h.le k hk
  · by_cases big : b ≤ L k
    · rw [is, h.eq k hk big]
      split <;> omega
    · have e : L k = b - 1 := by omega
      have up : (levelM g m l b).getD k 0 ≤ L k := by
        rw [is]
        split
        · have := h.le k hk
          omega
        · exact h.le k hk
      have dn : b - 1 ≤ (levelM g m l b).getD k 0 := by
        have r := hL.rule k hk
        have r2 : b - 1 ≤ LF g L k := by omega
        rw [GT.LF_ge (by omega)] at r2
        obtain ⟨c, d | ⟨j, hj, d⟩⟩ := r2
        · rcases h.own k hk with q | q
          · rw [is]
            split <;> omega
          · rw [c] at q
            cases q
        · have jl := GT.around_lt hk hj
          have jb : L j = b := by
            have : L j - 1 ≤ L k := by
              by_cases z : L j - 1 = 0
              · omega
              · rw [r, GT.LF_ge (by omega)]
                exact ⟨c, .inr ⟨j, hj, by omega⟩⟩
            omega
          rw [is, if_pos ⟨⟨j, (Lsrc j).mpr ⟨jl, jb⟩, GT.around_symm hk hj⟩, by rw [← clr_is em]; exact c⟩]
          omega
      omega
theorem LInv.start {g : Ground} {m : List Nat} {L : Nat → Nat} (em : ∀ k, matAt g k = m.getD k 0) (hL : IsLight g L) : LInv g L 15 (ownsM g m) := by
  have srcle : ∀ k, k < size g → source g k ≤ L k := fun k hk => by
    by_cases c : clear (matAt g k) = true
    · exact source_light hL hk c
    · have e : source g k = 0 := by
        unfold source skyLit
        rw [Bool.eq_false_iff.mpr c, Bool.false_and, if_neg (by decide), if_neg]
        intro z
        rw [z] at c
        exact c rfl
      omega
  refine ⟨owns_len, fun k hk => ?_, fun k hk => ?_, fun k hk hv => ?_⟩
  · rw [own_is em hk]
    exact .inl (Nat.le_refl _)
  · rw [own_is em hk]
    exact srcle k hk
  · rw [own_is em hk]
    have mo := hL.most k
    have r := hL.rule k hk
    have r2 : 15 ≤ LF g L k := by omega
    rw [GT.LF_ge (by omega)] at r2
    obtain ⟨c, d | ⟨j, hj, d⟩⟩ := r2
    · have := srcle k hk
      omega
    · have := hL.most j
      omega
theorem lights_inv {g : Ground} {m : List Nat} {L : Nat → Nat} (em : ∀ k, matAt g k = m.getD k 0) (hL : IsLight g L) : ∀ i, i ≤ 14 → LInv g L (15 - i) ((List.range i).foldl (fun l i => levelM g m l (15 - i)) (ownsM g m))
  | 0, _ => LInv.start em hL
  | i + 1, h => by
    rw [range_more, List.foldl_append]
    have := (lights_inv em hL i (by omega)).step em hL (by omega)
    rw [show 15 - (i + 1) = 15 - i - 1 by omega]
    exact this
theorem lights_is {g : Ground} {m : List Nat} (em : ∀ k, matAt g k = m.getD k 0) {k : Nat} (hk : k < size g) : (lightsM g m).getD k 0 = lightOf g k := by
  have h := lights_inv em (lightOf_is g) 14 (Nat.le_refl _)
  by_cases c : 1 ≤ lightOf g k
  · exact h.eq k hk c
  · have : (lightsM g m).getD k 0 ≤ _ := h.le k hk
    omega
end Gr
set_option Elab.async false
set_option linter.all false
set_option maxRecDepth 100000
set_option maxHeartbeats 4000000
namespace Gr
open PySem PySem.Spec PyProof.Rows L2
open Vbwsar (Ground)
/-! # Light -/
def clrV (n : Nat) : Bool := n == 0 || (n == 3 || n == 4)
theorem clrV_in (n : Nat) : inV (V.int (n : Int)) [V.int 0, V.int 3, V.int 4] = clrV n := by
  show ((0 : Int) == (n : Int) || ((3 : Int) == (n : Int) || ((4 : Int) == (n : Int) || false))) = _
  unfold clrV
  have e : ∀ c : Nat, ((c : Int) == (n : Int)) = (n == c) := fun c => by
    by_cases h : n = c
    · subst h
      simp
    · have a : ((c : Int) == (n : Int)) = false := by
        rw [beq_eq_false_iff_ne]
        omega
      rw [a]
      exact (beq_eq_false_iff_ne.mpr h).symm
  have e0 := e 0
  have e3 := e 3
  have e4 := e 4
  rw [show ((0 : Int) == (n : Int)) = (n == 0) from e0, show ((3 : Int) == (n : Int)) = (n == 3) from e3, show ((4 : Int) == (n : Int)) = (n == 4) from e4, Bool.or_false]
theorem vn_snoc {l : List Nat} {k : Nat} : vn l ++ [V.int (k : Int)] = vn (l ++ [k]) := by
  show _ = (l ++ [k]).map _
  rw [List.map_append]
  rfl
abbrev sClear : Stmt := top 18
abbrev NClear : List Str := ["material"]
theorem scClear : FnScope NClear ["material"] (defScope sClear) := ⟨rfl, rfl, rfl, by decide +kernel, rfl, by decide +kernel, by decide +kernel⟩
def spClear : Sp := fun vs H Q _ => ∃ n : Nat, vs = [.int (n : Int)] ∧ ∀ H', Same H H' → Q (.bl (clrV n)) H'
/-- a list of truths -/
def BL (H : Hp) (a : Addr) (o : List Bool) : Prop := H a = some (.lst (o.map V.bl))
theorem bl_at {o : List Bool} {k : Nat} (h : k < o.length) : atI (o.map V.bl) (k : Int) = some (V.bl (o.getD k true)) := at_of rfl (by
  rw [List.getElem?_map, List.getElem?_eq_getElem h, List.getD_eq_getElem?_getD, List.getElem?_eq_getElem h]
  rfl)
abbrev sOpen : Stmt := top 19
abbrev NOpen : List Str := ["layout", "materials", "is_open", "cell", "below"]
theorem scOpen : FnScope NOpen ["layout", "materials"] (defScope sOpen) := ⟨rfl, rfl, rfl, by decide +kernel, rfl, by decide +kernel, by decide +kernel⟩
def spOpen (CL : Addr) : Sp := fun vs H Q _ => ∃ (l a : Addr) (g : Ground) (m : List Nat), vs = [.ref l, .ref a] ∧ Lay CL H l g ∧ IL H a m ∧ m.length = Vbwsar.size g ∧ Vbwsar.size g ≤ 600 ∧
  ∀ H' p, Same H H' → H p = none → BL H' p (openTo g m (Vbwsar.size g)) → Q (.ref p) H'
abbrev sOwn : Stmt := top 20
abbrev NOwn : List Str := ["material", "is_open"]
theorem scOwn : FnScope NOwn ["material", "is_open"] (defScope sOwn) := ⟨rfl, rfl, rfl, by decide +kernel, rfl, by decide +kernel, by decide +kernel⟩
def spOwn : Sp := fun vs H Q _ => ∃ (n : Nat) (o : Bool), vs = [.int (n : Int), .bl o] ∧ ∀ H', Same H H' → Q (.int (ownV n o : Int)) H'
abbrev sOwns : Stmt := top 21
abbrev NOwns : List Str := ["layout", "materials", "is_open", "cell", "material"]
theorem scOwns : FnScope NOwns ["layout", "materials"] (defScope sOwns) := ⟨rfl, rfl, rfl, by decide +kernel, rfl, by decide +kernel, by decide +kernel⟩
def spList (CL : Addr) (f : Ground → List Nat → List Nat) : Sp := fun vs H Q _ => ∃ (l a : Addr) (g : Ground) (m : List Nat), vs = [.ref l, .ref a] ∧ Lay CL H l g ∧ IL H a m ∧ m.length = Vbwsar.size g ∧ Vbwsar.size g ≤ 600 ∧
  ∀ H' p, Same H H' → H p = none → IL H' p (f g m) → Q (.ref p) H'
theorem rep_flat {A : Type} {n : Nat} {a : A} : (List.replicate n [a]).flatten = List.replicate n a := by
  induction n with
  | zero => rfl
  | succ n ih =>
    rw [List.replicate_succ, List.flatten_cons, ih]
    rfl
theorem down_int {n i : Nat} (h : i < n) : ((n : Int) - 1) + (i : Int) * (-1) = ((n - 1 - i : Nat) : Int) := by omega
theorem int_eq3 (n : Nat) : decide (V.int (n : Int) = V.int 3) = (n == 3) := int_eqN n 3
section
variable {P : Program} {w : World} {K : PySem.W.Frag} {mg : Str → Option Value} {base : Heap} {CL CG : Addr}
theorem ok_clear {f : Addr} {fd : FuncData} (F : Fun K "is_clear" "is_clear" sClear f fd) (T : Txt K mg CL CG) : FnOk P w K mg base CX0 1 f fd NClear spClear := by
  refine F.ok scClear (fun vs H Q E h => ?_) (fun cdv A outer s H vs Q E hr h => ?_)
  · obtain ⟨_, rfl, _⟩ := h
    rfl
  · refine ⟨_, pss_one (ps_ret (pe_cmpR op_in_seq (pv 0) (pe_tup (pa_cons (pe_gi T.gAIR) (pa_cons (pe_gi T.gLAMP) (pa_cons (pe_gi T.gGLASS) pa_nil)))) (by rfl))), ?_⟩
    obtain ⟨n, rfl, q⟩ := h
    refine ⟨_, rfl, (by show 3 ≤ sizeLine; decide), fun t ht => ⟨t, _, rfl, Or.inr (SqT.of upd_same), rfl, rfl, ?_⟩⟩
    have e := clrV_in n
    rw [show (if false = true then !inV (V.int (n : Int)) [V.int 0, V.int 3, V.int 4] else inV (V.int (n : Int)) [V.int 0, V.int 3, V.int 4]) = clrV n from e]
    exact q _ (same_new ht)
theorem ok_open {f fC : Addr} {fd fdC : FuncData} (F : Fun K "open_cells" "open_cells" sOpen f fd) (T : Txt K mg CL CG) (D : DefN K mg "is_clear" sClear NClear fC fdC) : FnOk P w K mg base CX0 2 f fd ["layout", "materials"] (spOpen CL) := by
  have GC : FnOk P w K mg base CX0 1 fC fdC NClear spClear := ok_clear D.F T
  refine F.ok scOpen (fun vs H Q E h => ?_) (fun cdv A outer s H vs Q E hr h => ?_)
  · obtain ⟨_, _, _, _, rfl, _⟩ := h
    rfl
  · refine ⟨_, pss_cons (ps_set (i := 2) scOpen.nd rfl (Or.inl rfl) (pe_op op_rep (pe_lst (pa_cons pe_bl pa_nil)) (pe_callB call_len_seq (by rfl) T.nlen PySem.boot_len (pa_cons (pv 1) pa_nil))))
      (pss_cons (ps_for PassesOwn.never rfl (pi_range3 (by rfl) T.nrange (pa_cons (pe_op op_sub (pe_callB call_len_seq (by rfl) T.nlen PySem.boot_len (pa_cons (pv 1) pa_nil)) pe_int) (pa_cons (pe_un un_neg pe_int) (pa_cons (pe_un un_neg pe_int) pa_nil)))) (pg_name (i := 3) scOpen.nd rfl (Or.inl rfl))
        (pss_cons (ps_set (i := 4) scOpen.nd rfl (Or.inl rfl) (pe_ix ix_list (pe_fld (pv 0) rfl) (pv 3) (fun _ _ => rfl)))
        (pss_one (ps_if (PW.pt (pw_and (pt_cmpR op_notN (pv 4) pe_non (nomark _)) (pw_and1 (pt_not (PW.pt (pw_and (pt_val (pe_ix ix_list (pv 2) (pv 3) (fun _ _ => rfl))) (pw_and1 (pt_val (pe_call GC hr rfl D.g D.F.kp D.b .nil pass0 (pa_cons (pe_ix ix_list (pv 1) (pv 3) (fun _ _ => rfl)) pa_nil))))))))))
          (pss_one (ps_asg pe_bl (pg_sub (pv 2) (pv 4) set_list))) pss_nil))))
      (pss_one (ps_ret (pv 2)))), ?_⟩
    obtain ⟨l, a, g, m, rfl, L, hm, hl, sz, q⟩ := h
    have small : ∀ n, n ≤ 600 → n < sizeLine := fun n h => small1000 (by omega)
    refine ⟨(by show 1 ≤ sizeLine; decide), fun u hu => ?_⟩
    generalize g1 : upd H u _ = H1
    obtain ⟨s1, e1⟩ := newS hu g1
    refine ⟨_, rfl, a, _, rfl, .inl (SqL.of (s1 _ _ hm)), u, _, _, rfl, rfl, e1, (by rw [vn_len]; omega), (by rw [vn_len]; omega), ?_, fun p hp => ?_⟩
    · show 1 * ((vn m).length : Int).toNat ≤ sizeLine
      rw [vn_len, Int.toNat_natCast, Nat.one_mul]
      exact Nat.le_of_lt (small _ (by omega))
    generalize g2 : upd H1 p _ = H2
    obtain ⟨s2, e2⟩ := newS hp g2
    have s12 := s1.trans s2
    have hp0 := s1.free hp
    rw [rep_flat, vn_len, Int.toNat_natCast] at e2
    have e2 : BL H2 p (openTo g m 0) := by
      unfold BL
      rw [e2, hl]
      unfold openTo
      rw [List.range_zero, List.foldl_nil, List.map_replicate]
    refine ⟨_, rfl, a, _, rfl, .inl (SqL.of (s12 _ _ hm)), _, _, rfl, rfl, _, rfl, _, rfl, ((vn m).length : Int) - 1, -1, -1, Vbwsar.size g, rfl, ?_, ?_⟩
    · have r := RgC.neg (i := ((vn m).length : Int) - 1) (j := -1) (by omega) (by rw [vn_len]; omega) (by omega) (by omega)
      rw [show (((vn m).length : Int) - 1 - -1).toNat = Vbwsar.size g by rw [vn_len]; omega] at r
      exact r
    refine for_rangeC (lo := ((vn m).length : Int) - 1) (c := -1) (n := Vbwsar.size g) (fun i σ H' => ∃ c b, σ = [some (.ref l), some (.ref a), some (.ref p), c, b] ∧ Same H H' ∧ BL H' p (openTo g m i)) ⟨_, _, rfl, s12, e2⟩ ?_ ?_
    · rintro i σ H3 hi ⟨c, b, rfl, s3, e3⟩
      rw [vn_len, hl, down_int hi]
      have kl : Vbwsar.size g - 1 - i < Vbwsar.size g := by omega
      have ol := openTo_len (g := g) (m := m) i
      rw [openTo_more]
      generalize Vbwsar.size g - 1 - i = k at *
      generalize openTo g m i = o at *
      obtain ⟨d, L3⟩ := L.same s3
      refine ⟨_, rfl, l, CL, d.dx, _, _, rfl, L3.ins, T.clL, T.aBelow, L3.fBelow, _, rfl, d.be, _, _, _, rfl, rfl, SqL.of L3.below, L3.belowAt kl, ?_⟩
      cases e : Vbwsar.below g k with
      | none =>
        have os : openStep g m o k = o := by
          unfold openStep
          rw [e]
        rw [os]
        exact ⟨_, rfl, rfl, _, rfl, iteF (iteF ⟨_, _, rfl, s3, e3⟩)⟩
      | some j =>
        have jl : j < Vbwsar.size g := GT.around_lt kl (GT.below_around e)
        have os : openStep g m o k = if (o.getD k true && clrM m k) = true then o else o.set j false := by
          unfold openStep
          rw [e]
        have cc : clrV (m.getD k 0) = clrM m k := rfl
        refine ⟨_, rfl, rfl, _, rfl, iteT ⟨_, rfl, _, rfl, p, _, _, _, rfl, rfl, SqL.of e3, bl_at (by rw [ol]; exact kl), _, rfl, ?_⟩⟩
        have put : ∀ {H4 : Hp}, Same H3 H4 → openStep g m o k = o.set j false → ∃ c b, ([some (V.ref l), some (.ref a), some (.ref p), some (.int (k : Int)), some (optV (some j))] : L2.St) = [some (.ref l), some (.ref a), some (.ref p), c, b] ∧ Same H (upd H4 p (.lst ((o.map V.bl).set j (V.bl false)))) ∧ BL (upd H4 p (.lst ((o.map V.bl).set j (V.bl false)))) p (openStep g m o k) := fun s4 eo => by
          refine ⟨_, _, rfl, same_upd (s3.trans s4) hp0, ?_⟩
          unfold BL
          rw [upd_same, eo, List.map_set]
        have jo : ixN (o.map V.bl).length (j : Int) = some j := ixNat (by rw [List.length_map, ol]; exact jl)
        cases c1 : o.getD k true with
        | false =>
          have eo : openStep g m o k = o.set j false := by
            rw [os, c1, Bool.false_and, if_neg (by decide)]
          exact iteF (iteT ⟨_, rfl, _, rfl, p, _, _, j, rfl, rfl, e3, jo, put (Same.refl H3) eo⟩)
        | true =>
          refine iteT ⟨_, rfl, _, rfl, a, _, _, _, rfl, rfl, SqL.of (s3 _ _ hm), vn_atI (by rw [hl]; exact kl), _, rfl, fun H4 s4 => ⟨_, rfl, ?_⟩⟩
          rw [cc]
          cases c2 : clrM m k with
          | false =>
            have eo : openStep g m o k = o.set j false := by
              rw [os, c1, c2, Bool.true_and, if_neg (by decide)]
            exact iteT ⟨_, rfl, _, rfl, p, _, _, j, rfl, rfl, s4 _ _ e3, jo, put s4 eo⟩
          | true =>
            have eo : openStep g m o k = o := by
              rw [os, c1, c2, Bool.true_and, if_pos rfl]
            rw [eo]
            exact iteF ⟨_, _, rfl, s3.trans s4, s4 _ _ e3⟩
    · rintro σ H3 ⟨c, b, rfl, s3, e3⟩
      exact ⟨_, rfl, q H3 p s3 hp0 e3⟩
theorem ok_own {f fC : Addr} {fd fdC : FuncData} (F : Fun K "own_light" "own_light" sOwn f fd) (T : Txt K mg CL CG) (D : DefN K mg "is_clear" sClear NClear fC fdC) : FnOk P w K mg base CX0 2 f fd NOwn spOwn := by
  have GC : FnOk P w K mg base CX0 1 fC fdC NClear spClear := ok_clear D.F T
  refine F.ok scOwn (fun vs H Q E h => ?_) (fun cdv A outer s H vs Q E hr h => ?_)
  · obtain ⟨_, _, rfl, _⟩ := h
    rfl
  · refine ⟨_, pss_cons (ps_if (pt_not (pt_val (pe_call GC hr rfl D.g D.F.kp D.b .nil pass0 (pa_cons (pv 0) pa_nil)))) (pss_one (ps_ret pe_int)) pss_nil)
      (pss_cons (ps_if (pt_val (pv 1)) (pss_one (ps_ret (pe_gi T.gSKY))) pss_nil)
      (pss_cons (ps_if (pt_cmpR op_eq (pv 0) (pe_gi T.gLAMP) (nomark _)) (pss_one (ps_ret (pe_gi T.gGLOW))) pss_nil)
      (pss_one (ps_ret pe_int)))), ?_⟩
    obtain ⟨n, o, rfl, q⟩ := h
    refine ⟨_, rfl, n, rfl, fun H1 s1 => ⟨_, rfl, ?_⟩⟩
    have q := q H1 s1
    unfold ownV at q
    unfold clrV
    cases c : (n == 0 || (n == 3 || n == 4)) with
    | false =>
      rw [c, if_pos rfl] at q
      exact iteT q
    | true =>
      rw [c, if_neg (by decide)] at q
      refine iteF ⟨_, rfl, _, rfl, ?_⟩
      cases o with
      | true =>
        rw [if_pos rfl] at q
        exact iteT q
      | false =>
        rw [if_neg (by decide)] at q
        refine iteF ⟨_, rfl, rfl, _, rfl, ?_⟩
        rw [int_eq3]
        cases c3 : (n == 3) with
        | true =>
          rw [if_pos (by simpa using c3)] at q
          exact iteT q
        | false =>
          rw [if_neg (by simpa using c3)] at q
          exact iteF q
theorem ok_owns {f fO fW fC : Addr} {fd fdO fdW fdC : FuncData} (F : Fun K "own_lights" "own_lights" sOwns f fd) (T : Txt K mg CL CG) (DC : DefN K mg "is_clear" sClear NClear fC fdC)
    (DO : DefN K mg "open_cells" sOpen ["layout", "materials"] fO fdO) (DW : DefN K mg "own_light" sOwn NOwn fW fdW) : FnOk P w K mg base CX0 3 f fd ["layout", "materials"] (spList CL ownsM) := by
  have GO : FnOk P w K mg base CX0 2 fO fdO ["layout", "materials"] (spOpen CL) := ok_open DO.F T DC
  have GW : FnOk P w K mg base CX0 2 fW fdW NOwn spOwn := ok_own DW.F T DC
  refine F.ok scOwns (fun vs H Q E h => ?_) (fun cdv A outer s H vs Q E hr h => ?_)
  · obtain ⟨_, _, _, _, rfl, _⟩ := h
    rfl
  · refine ⟨_, pss_cons (ps_set (i := 2) scOwns.nd rfl (Or.inr rfl) (pe_call GO hr rfl DO.g DO.F.kp DO.b .nil pass0 (pa_cons (pv 0) (pa_cons (pv 1) pa_nil))))
      (pss_one (ps_ret (pe_lc (own := [("cell", 3), ("material", 4)]) (g := gTup K 2 (gCons (gName 3) (gCons (gName 4) gNil))) (tt := tYes) rfl scOwns.nd (pi_enum (by rfl) T.nenum (pa_cons (pv 1) pa_nil)) (blkOk_by (N := NOwns) (sc := defScope sOwns) (by decide +kernel))
        (fun _ _ _ _ _ => pg_tup rfl (pgs_cons (pg_name (i := 3) scOwns.nd rfl (Or.inl rfl)) (pgs_cons (pg_name (i := 4) scOwns.nd rfl (Or.inl rfl)) pgs_nil)))
        (fun _ _ _ _ _ => pts_nil)
        (fun _ _ _ _ _ => pe_call GW hr rfl DW.g DW.F.kp DW.b .nil pass0 (pa_cons (pv 4) (pa_cons (pe_ix (r := rIxL K) ix_list (pv 2) (pv 3) (fun _ _ => rfl)) pa_nil)))))), ?_⟩
    obtain ⟨l, a, g, m, rfl, L, hm, hl, sz, q⟩ := h
    have small : ∀ n, n ≤ 600 → n < sizeLine := fun n h => small1000 (by omega)
    refine ⟨_, rfl, _, rfl, l, a, g, m, rfl, L, hm, hl, sz, fun H1 p s1 hp e1 => ?_⟩
    refine ⟨_, rfl, a, vn m, rfl, SqL.of (s1 _ _ hm), fun D hD => ?_⟩
    refine lc_it walk_enum (fun i H' => Same H1 H' ∧ IL H' D ((List.range i).map fun k => ownV (m.getD k 0) ((openTo g m (Vbwsar.size g)).getD k true))) ⟨same_new hD, upd_same⟩ (fun i H' _ h => SqL.of (h.1 _ _ (s1 _ _ hm))) ?_ ?_
    · rintro i x H2 H3 hi ⟨s2, e2⟩ ⟨t, x1, x2, rfl, ht, rfl, h1, h2⟩
      rw [vn_len] at hi
      injection h1 with h1
      subst h1
      obtain ⟨y, hy, rfl⟩ := at_vn h2
      have yv : y = m.getD i 0 := by
        rw [List.getD_eq_getElem?_getD, hy]
        rfl
      subst yv
      have s3 : Same H2 (upd H2 t (.tup [.int (i : Int), .int ((m.getD i 0 : Nat) : Int)])) := same_new ht
      refine ⟨t, _, rfl, SqT.of upd_same, rfl, _, _, rfl, _, _, rfl, rfl, rfl, ?_⟩
      refine ⟨_, rfl, _, rfl, _, rfl, p, _, _, _, rfl, rfl, SqL.of (s3 _ _ (s2 _ _ e1)), bl_at (by rw [openTo_len]; omega), _, _, rfl, fun H4 s4 => ⟨_, s4 _ _ (s3 _ _ e2), ?_, same_upd (s2.trans (s3.trans s4)) hD, ?_⟩⟩
      · rw [vn_len, List.length_map, List.length_range]
        exact small _ (by omega)
      · unfold IL
        rw [upd_same, range_more, List.map_append]
        exact congrArg (fun z => some (HO.lst z)) vn_snoc
    · rintro H2 ⟨s2, e2⟩
      rw [vn_len, hl] at e2
      exact q H2 D (s1.trans s2) (s1.free hD) e2
end
end Gr
set_option Elab.async false
set_option linter.all false
set_option maxRecDepth 100000
set_option maxHeartbeats 4000000
namespace Gr
open PySem PySem.Spec PyProof.Rows L2
open Vbwsar (Ground)
theorem fits_NI {x y z : Nat} : fitsI [(x : Int), (y : Int), (z : Int)] = fitsN x y z := by
  unfold fitsI fitsN prodI
  simp only [List.all_cons, List.all_nil, List.foldl_cons, List.foldl_nil, Int.one_mul, Bool.and_true]
  have p : ((x : Int) * (y : Int) * (z : Int) ≤ 600) ↔ x * y * z ≤ 600 := by
    rw [← Int.natCast_mul, ← Int.natCast_mul]
    omega
  have q : decide ((x : Int) * (y : Int) * (z : Int) ≤ 600) = decide (x * y * z ≤ 600) := by
    rw [decide_eq_decide]
    exact p
  rw [q]
  have i : ∀ n : Nat, inSide (n : Int) = decide (1 ≤ n ∧ n ≤ 12) := fun n => by
    rw [Bool.eq_iff_iff, inSide_iff, decide_eq_true_iff]
    omega
  rw [i, i, i, Bool.eq_iff_iff]
  simp only [Bool.and_eq_true, decide_eq_true_iff]
  constructor
  · rintro ⟨⟨a, b, c⟩, d⟩
    exact ⟨a.1, a.2, b.1, b.2, c.1, c.2, d⟩
  · rintro ⟨a1, a2, b1, b2, c1, c2, d⟩
    exact ⟨⟨⟨a1, a2⟩, ⟨b1, b2⟩, c1, c2⟩, d⟩
abbrev sWrong : Stmt := top 33
abbrev NWrong : List Str := ["octets", "layers", "contents", "octet"]
theorem scWrong : FnScope NWrong ["octets"] (defScope sWrong) := ⟨rfl, rfl, rfl, by decide +kernel, rfl, by decide +kernel, by decide +kernel⟩
def spWrong : Sp := fun vs H Q _ => ∃ (o : Addr) (t : List Nat), vs = [.ref o] ∧ IL H o t ∧ t.length ≤ 1000 ∧ ∀ H', Same H H' → Q (.int (wrongM t : Int)) H'
abbrev sRead : Stmt := top 34
abbrev NRead : List Str := ["octets", "contents", "cells", "water", "materials", "octet", "material"]
theorem scRead : FnScope NRead ["octets"] (defScope sRead) := ⟨rfl, rfl, rfl, by decide +kernel, rfl, by decide +kernel, by decide +kernel⟩
def spRead : Sp := fun vs H Q _ => ∃ (o : Addr) (t : List Nat) (L : List (List (List Nat))), vs = [.ref o] ∧ IL H o t ∧ t.length ≤ 1000 ∧ layM t = some L ∧ evenM L = true ∧ (∀ c ∈ t, c = 10 ∨ (Vbwsar.meant c).isSome = true) ∧
  ∀ H' p sa a b, Same H H' → H p = none → H sa = none → H a = none → H b = none → a ≠ b → H' p = some (.tup [.ref sa, .ref a, .ref b]) → H' sa = some (.tup [.int ((sidesM L).1 : Int), .int ((sidesM L).2.1 : Int), .int ((sidesM L).2.2 : Int)]) →
    IL H' a ((t.filter fun c => c != 10).map matOf) → IL H' b ((t.filter fun c => c != 10).map watOf) → Q (.ref p) H'
/-- the tuple that a dict of signs holds for a sign -/
def tupOf (kvs : List (Key × V)) (c : Nat) : Addr := match valV kvs (Sum.inl (c : Int)) with
  | some (.ref t) => t
  | _ => 0
theorem ContF.at {H : Hp} {kvs : List (Key × V)} (h : ContF H kvs Vbwsar.meant) {c : Nat} (m : (Vbwsar.meant c).isSome = true) : valV kvs (Sum.inl (c : Int)) = some (.ref (tupOf kvs c)) ∧ H (tupOf kvs c) = some (.tup [.int (matOf c : Int), .int (watOf c : Int)]) := by
  have := h c
  unfold matOf watOf
  cases e : Vbwsar.meant c with
  | none =>
    rw [e] at m
    cases m
  | some p =>
    rw [e] at this
    obtain ⟨t, h1, h2⟩ := this
    have z : tupOf kvs c = t := by
      unfold tupOf
      rw [h1]
    rw [z]
    exact ⟨h1, h2⟩
theorem ContF.isSome {H : Hp} {kvs : List (Key × V)} (h : ContF H kvs Vbwsar.meant) (c : Nat) : (valV kvs (Sum.inl (c : Int))).isSome = (Vbwsar.meant c).isSome := by
  have := h c
  cases e : Vbwsar.meant c with
  | none =>
    rw [e] at this
    rw [this]
    rfl
  | some p =>
    rw [e] at this
    obtain ⟨t, h1, h2⟩ := this
    rw [h1]
    rfl
section
variable {P : Program} {w : World} {K : PySem.W.Frag} {mg : Str → Option Value} {base : Heap} {CL CG aS : Addr}
theorem ok_wrong {f fY fE fF fS fC : Addr} {fd fdY fdE fdF fdS fdC : FuncData} (F : Fun K "what_is_wrong" "what_is_wrong" sWrong f fd) (T : Txt K mg CL CG) (TS : TxtS K mg aS)
    (DY : DefN K mg "layers_of" sLayers ["octets"] fY fdY) (DE : DefN K mg "is_even" sEven ["layers"] fE fdE) (DF : DefN K mg "fits" sFits ["sides"] fF fdF) (DS : DefN K mg "sides_of" sSidesOf ["layers"] fS fdS) (DC : DefN K mg "contents_by_sign" sConts [] fC fdC) :
    FnOk P w K mg base CX0 2 f fd ["octets"] spWrong := by
  have GY : FnOk P w K mg base CX0 1 fY fdY ["octets"] spLayers := ok_layers DY.F T
  have GE : FnOk P w K mg base CX0 1 fE fdE ["layers"] spEven := ok_even DE.F T
  have GF : FnOk P w K mg base CX0 1 fF fdF ["sides"] (spFitsT K) := ok_fitsT DF.F T
  have GS : FnOk P w K mg base CX0 1 fS fdS ["layers"] spSidesOf := ok_sidesOf DS.F T
  have GC : FnOk P w K mg base CX0 1 fC fdC [] spConts := ok_conts DC.F T TS
  refine F.ok scWrong (fun vs H Q E h => ?_) (fun cdv A outer s H vs Q E hr h => ?_)
  · obtain ⟨_, _, rfl, _⟩ := h
    rfl
  · have hu := hu_of hr
    refine ⟨_, pss_cons (ps_set (i := 1) scWrong.nd rfl (Or.inl rfl) (pe_call GY hr rfl DY.g DY.F.kp DY.b .nil pass0 (pa_cons (pv 0) pa_nil)))
      (pss_cons (ps_if (PW.pt (pw_or (pt_cmpR op_isN (pv 1) pe_non (nomark _)) (pw_or1 (pt_not (pt_val (pe_call GE hr rfl DE.g DE.F.kp DE.b .nil pass0 (pa_cons (pv 1) pa_nil)))))))
        (pss_one (ps_ret pe_int)) pss_nil)
      (pss_cons (ps_if (pt_not (pt_val (pe_call GF hr rfl DF.g DF.F.kp DF.b .nil pass0 (pa_cons (pe_call GS hr rfl DS.g DS.F.kp DS.b .nil pass0 (pa_cons (pv 1) pa_nil)) pa_nil))))
        (pss_one (ps_ret pe_int)) pss_nil)
      (pss_cons (ps_set (i := 2) scWrong.nd rfl (Or.inl rfl) (pe_call0 GC hr rfl DC.g DC.F.kp DC.b .nil pass0))
      (pss_cons (ps_for PassesOwn.never rfl (pi_list (pv 0)) (pg_name (i := 3) scWrong.nd rfl (Or.inl rfl))
        (pss_one (ps_if (PW.pt (pw_and (pt_cmpR op_ne (pv 3) (pe_gi T.gROW) (nomark _)) (pw_and1 (pt_cmp (pc_dnotin hu (pv 3) (pv 2))))))
          (pss_one (ps_ret pe_int)) pss_nil)))
      (pss_one (ps_ret pe_int)))))), ?_⟩
    obtain ⟨o, t, rfl, ho, tl, q⟩ := h
    refine ⟨_, rfl, o, t, rfl, ho, tl, fun H1 s1 => ⟨fun e => ?_, fun L p e hp lp => ?_⟩⟩
    · have : wrongM t = 1 := by
        unfold wrongM
        rw [e]
      rw [this] at q
      exact ⟨_, rfl, rfl, _, rfl, iteT (iteT (q H1 s1))⟩
    · unfold wrongM at q
      rw [e] at q
      dsimp only at q
      refine ⟨_, rfl, rfl, _, rfl, iteF ⟨_, rfl, p, L, rfl, lp, _, rfl, ?_⟩⟩
      cases ev : evenM L with
      | false =>
        rw [ev, if_pos rfl] at q
        exact iteT (q H1 s1)
      | true =>
        rw [ev, if_neg (by decide)] at q
        refine iteF ⟨_, rfl, p, L, rfl, lp, ev, fun sd hsd => ?_⟩
        generalize g2 : upd H1 sd _ = H2
        obtain ⟨s2, e2⟩ := newS hsd g2
        refine ⟨sd, [((sidesM L).1 : Int), ((sidesM L).2.1 : Int), ((sidesM L).2.2 : Int)], rfl, SqT.of e2, rfl, _, rfl, ?_⟩
        rw [fits_NI]
        cases fi : fitsN (sidesM L).1 (sidesM L).2.1 (sidesM L).2.2 with
        | false =>
          rw [fi, if_pos rfl] at q
          exact iteT (q H2 (s1.trans s2))
        | true =>
          rw [fi, if_neg (by decide)] at q
          refine iteF ⟨rfl, fun H3 d s3 hd ⟨kvs, dk, cf⟩ => ?_⟩
          have s13 := s1.trans (s2.trans s3)
          refine ⟨_, rfl, o, rfl, ⟨_, SqL.of (s13 _ _ ho)⟩, for_list (K := K) (a := o) (xs := vn t) (fun i σ H' => H' = H3 ∧ ∃ c, σ = [some (.ref o), some (.ref p), some (.ref d), c] ∧ ∀ c ∈ t.take i, (c == 10 || (Vbwsar.meant c).isSome) = true)
            ⟨rfl, _, rfl, fun c hc => by cases hc⟩ (fun i σ H' _ h => by rw [h.1]; exact SqL.of (s13 _ _ ho)) ?_ ?_⟩
          · rintro i x σ H' hi ⟨rfl, c1, rfl, ok⟩
            obtain ⟨b, hb, rfl⟩ := at_vn hi
            have more : (b == 10 || (Vbwsar.meant b).isSome) = true → ∀ c ∈ t.take (i + 1), (c == 10 || (Vbwsar.meant c).isSome) = true := fun z c hc => by
              rw [take_more hb] at hc
              rcases List.mem_append.mp hc with hc | hc
              · exact ok c hc
              · have : c = b := by simpa using hc
                rw [this]
                exact z
            refine ⟨_, rfl, rfl, _, rfl, ?_⟩
            rw [int_eq10]
            cases c10 : (b == 10) with
            | true => exact iteF (iteF ⟨rfl, _, rfl, more (by rw [c10]; rfl)⟩)
            | false =>
              refine iteT ⟨_, rfl, _, rfl, d, _, rfl, DGet.k (k := Sum.inl (b : Int)) dk, _, rfl, ?_⟩
              rw [cf.isSome]
              cases me : (Vbwsar.meant b).isSome with
              | true => exact iteF ⟨rfl, _, rfl, more (by rw [me, Bool.or_true])⟩
              | false =>
                have : ¬ (t.all fun c => c == 10 || (Vbwsar.meant c).isSome) = true := fun z => by
                  have := List.all_eq_true.mp z b (List.mem_of_getElem? hb)
                  rw [c10, me] at this
                  cases this
                rw [if_neg this] at q
                exact iteT (q H' s13)
          · rintro σ H' ⟨rfl, c1, rfl, ok⟩
            rw [vn_len, List.take_length] at ok
            rw [if_pos (List.all_eq_true.mpr ok)] at q
            exact q H' s13
theorem ok_read {f fY fS fC : Addr} {fd fdY fdS fdC : FuncData} (F : Fun K "read_text" "read_text" sRead f fd) (T : Txt K mg CL CG) (TS : TxtS K mg aS)
    (DY : DefN K mg "layers_of" sLayers ["octets"] fY fdY) (DS : DefN K mg "sides_of" sSidesOf ["layers"] fS fdS) (DC : DefN K mg "contents_by_sign" sConts [] fC fdC) :
    FnOk P w K mg base CX0 2 f fd ["octets"] spRead := by
  have GY : FnOk P w K mg base CX0 1 fY fdY ["octets"] spLayers := ok_layers DY.F T
  have GS : FnOk P w K mg base CX0 1 fS fdS ["layers"] spSidesOf := ok_sidesOf DS.F T
  have GC : FnOk P w K mg base CX0 1 fC fdC [] spConts := ok_conts DC.F T TS
  refine F.ok scRead (fun vs H Q E h => ?_) (fun cdv A outer s H vs Q E hr h => ?_)
  · obtain ⟨_, _, _, rfl, _⟩ := h
    rfl
  · have hu := hu_of hr
    refine ⟨_, pss_cons (ps_set (i := 1) scRead.nd rfl (Or.inr rfl) (pe_call0 GC hr rfl DC.g DC.F.kp DC.b .nil pass0))
      (pss_cons (ps_setLc (i := 2) (own := [("octet", 5)]) (g := gName 5) rfl scRead.nd rfl rfl (sw_true rfl rfl rfl (by decide +kernel))
        (pi_list (pv 0)) (blkOk_by (N := NRead) (sc := defScope sRead) (by decide +kernel))
        (fun _ _ _ _ _ => pg_name (i := 5) scRead.nd rfl (Or.inl rfl))
        (fun _ _ _ _ _ => pts_one (pt_cmpR op_ne (pv 5) (pe_gi T.gROW) (nomark _)))
        (fun _ _ _ _ _ => pe_dget hu (pv 1) (pv 5) (fun _ _ => rfl)))
      (pss_cons (ps_setLc (i := 4) (own := [("material", 6), ("water", 3)]) (g := gTup K 2 (gCons (gName 6) (gCons (gName 3) gNil))) rfl scRead.nd rfl rfl (sw_true rfl rfl rfl (by decide +kernel))
        (pi_list (pv 2)) (blkOk_by (N := NRead) (sc := defScope sRead) (by decide +kernel))
        (fun _ _ _ _ _ => pg_tup rfl (pgs_cons (pg_name (i := 6) scRead.nd rfl (Or.inl rfl)) (pgs_cons (pg_name (i := 3) scRead.nd rfl (Or.inl rfl)) pgs_nil)))
        (fun _ _ _ _ _ => pts_nil)
        (fun _ _ _ _ _ => pv 6))
      (pss_cons (ps_set (i := 3) scRead.nd rfl (Or.inl rfl) (pe_lc (own := [("material", 6), ("water", 3)]) (g := gTup K 2 (gCons (gName 6) (gCons (gName 3) gNil))) rfl scRead.nd
        (pi_list (pv 2)) (blkOk_by (N := NRead) (sc := defScope sRead) (by decide +kernel))
        (fun _ _ _ _ _ => pg_tup rfl (pgs_cons (pg_name (i := 6) scRead.nd rfl (Or.inl rfl)) (pgs_cons (pg_name (i := 3) scRead.nd rfl (Or.inl rfl)) pgs_nil)))
        (fun _ _ _ _ _ => pts_nil)
        (fun _ _ _ _ _ => pv 3)))
      (pss_one (ps_ret (pe_tup (pa_cons (pe_call GS hr rfl DS.g DS.F.kp DS.b .nil pass0 (pa_cons (pe_call GY hr rfl DY.g DY.F.kp DY.b .nil pass0 (pa_cons (pv 0) pa_nil)) pa_nil)) (pa_cons (pv 4) (pa_cons (pv 3) pa_nil))))))))), ?_⟩
    obtain ⟨o, t, L, rfl, ho, tl, lay, ev, ok, q⟩ := h
    have small : ∀ n, n ≤ 1000 → n < sizeLine := fun n h => small1000 h
    refine ⟨rfl, fun H1 d s1 hd ⟨kvs, dk, cf⟩ => ?_⟩
    refine ⟨_, rfl, o, rfl, ⟨_, SqL.of (s1 _ _ ho)⟩, fun D hD => ?_⟩
    refine lc_pure (fun x => V.ref (tupOf kvs (natV x))) (fun x => !(natV x == 10)) hD (by rw [vn_len]; exact small _ tl) (SqL.of (s1 _ _ ho)) (fun x => rfl) (fun x hx H2 s2 Q h => ?_) (fun x hx px H2 s2 Q h => ?_) (fun H2 s2 e2 => ?_)
    · obtain ⟨c, hc, rfl⟩ := mem_vn hx
      refine ⟨_, rfl, rfl, _, rfl, ?_⟩
      rw [int_eq10]
      exact h H2 (Same.refl H2)
    · obtain ⟨c, hc, rfl⟩ := mem_vn hx
      have c10 : ¬ c = 10 := fun z => by
        subst z
        cases px
      have me := (ok c hc).resolve_left c10
      have at' := cf.at me
      refine ⟨_, rfl, _, rfl, d, _, rfl, ?_, h H2 (Same.refl H2)⟩
      have g := DGet.k (k := Sum.inl (c : Int)) (s2 _ _ dk)
      rw [at'.1] at g
      exact g
    have fe : ((vn t).filter (fun x => !(natV x == 10))).map (fun x => V.ref (tupOf kvs (natV x))) = (t.filter fun c => c != 10).map fun c => V.ref (tupOf kvs c) := by
      rw [List.filter_map, List.map_map]
      rfl
    rw [fe] at e2
    have fok : ∀ c ∈ t.filter (fun c => c != 10), (Vbwsar.meant c).isSome = true := fun c hc => by
      have := List.mem_filter.mp hc
      refine (ok c this.1).resolve_left fun z => ?_
      rw [z] at this
      exact absurd this.2 (by decide)
    have fl : (t.filter fun c => c != 10).length ≤ 1000 := Nat.le_trans (List.length_filter_le _ _) tl
    generalize (t.filter fun c => c != 10) = fs at e2 fok fl q
    have s12 := s1.trans s2
    have cf2 := cf.same s2
    refine ⟨_, rfl, D, rfl, ⟨_, SqL.of e2⟩, fun D2 hD2 => ?_⟩
    refine lc_list (K := K) (a := D) (xs := fs.map fun c => V.ref (tupOf kvs c)) (fun i H' => Same H2 H' ∧ IL H' D2 ((fs.take i).map matOf)) ⟨same_new hD2, upd_same⟩ (fun i H' _ h => SqL.of (h.1 _ _ e2)) ?_ ?_
    · rintro i x H3 hi ⟨s3, e3⟩
      rw [List.getElem?_map] at hi
      obtain ⟨c, hc, rfl⟩ := Option.map_eq_some_iff.mp hi
      have at' := (cf2.same s3).at (fok c (List.mem_of_getElem? hc))
      refine ⟨tupOf kvs c, _, rfl, SqT.of at'.2, rfl, _, _, rfl, _, _, rfl, rfl, rfl, ?_⟩
      refine ⟨_, rfl, _, e3, ?_, same_upd s3 hD2, ?_⟩
      · rw [vn_len, List.length_map, List.length_take]
        exact small _ (by omega)
      · unfold IL
        rw [upd_same, take_more hc, List.map_append]
        exact congrArg (fun z => some (HO.lst z)) vn_snoc
    rintro H3 ⟨s3, e3⟩
    rw [List.length_map, List.take_length] at e3
    have s13 := s12.trans s3
    refine ⟨_, rfl, D, rfl, ⟨_, SqL.of (s3 _ _ e2)⟩, fun D3 hD3 => ?_⟩
    have cf3 := cf2.same s3
    refine lc_list (K := K) (a := D) (xs := fs.map fun c => V.ref (tupOf kvs c)) (fun i H' => Same H3 H' ∧ IL H' D3 ((fs.take i).map watOf)) ⟨same_new hD3, upd_same⟩ (fun i H' _ h => SqL.of (h.1 _ _ (s3 _ _ e2))) ?_ ?_
    · rintro i x H4 hi ⟨s4, e4⟩
      rw [List.getElem?_map] at hi
      obtain ⟨c, hc, rfl⟩ := Option.map_eq_some_iff.mp hi
      have at' := (cf3.same s4).at (fok c (List.mem_of_getElem? hc))
      refine ⟨tupOf kvs c, _, rfl, SqT.of at'.2, rfl, _, _, rfl, _, _, rfl, rfl, rfl, ?_⟩
      refine ⟨_, rfl, _, e4, ?_, same_upd s4 hD3, ?_⟩
      · rw [vn_len, List.length_map, List.length_take]
        exact small _ (by omega)
      · unfold IL
        rw [upd_same, take_more hc, List.map_append]
        exact congrArg (fun z => some (HO.lst z)) vn_snoc
    rintro H4 ⟨s4, e4⟩
    rw [List.length_map, List.take_length] at e4
    have s14 := s13.trans s4
    have n23 : D2 ≠ D3 := ne_of_none e3 hD3
    refine ⟨_, rfl, o, t, rfl, s14 _ _ ho, tl, fun H5 s5 => ⟨fun e => ?_, fun L' p' e hp' lp => ?_⟩⟩
    · rw [lay] at e
      cases e
    rw [lay] at e
    injection e with e
    subst e
    refine ⟨p', L, rfl, lp, ev, fun sd hsd => ?_⟩
    generalize g6 : upd H5 sd _ = H6
    obtain ⟨s6, e6⟩ := newS hsd g6
    refine ⟨_, rfl, _, rfl, (by show 3 ≤ sizeLine; decide), fun p hp => ?_⟩
    generalize g7 : upd H6 p _ = H7
    obtain ⟨s7, e7⟩ := newS hp g7
    have s15 := s14.trans s5
    exact q H7 p sd D2 D3 (s15.trans (s6.trans s7)) (s15.free (s6.free hp)) (s15.free hsd) (s12.free hD2) (s13.free hD3) n23 e7 (s7 _ _ e6) (s7 _ _ (s6 _ _ (s5 _ _ (s4 _ _ e3)))) (s7 _ _ (s6 _ _ (s5 _ _ e4)))
end
end Gr
set_option Elab.async false
set_option linter.all false
set_option maxRecDepth 100000
set_option maxHeartbeats 4000000
namespace Gr
open PySem PySem.Spec PyProof.Rows L2
open Vbwsar (Ground)
/-- all that was tracked is as it was, but for what stands at a and b -/
def Keep (H H' : Hp) (a b : Addr) : Prop := ∀ c o, H c = some o → c ≠ a → c ≠ b → H' c = some o
theorem Keep.refl (H : Hp) (a b : Addr) : Keep H H a b := fun _ _ h _ _ => h
theorem Keep.trans {H H1 H2 : Hp} {a b : Addr} (h : Keep H H1 a b) (k : Keep H1 H2 a b) : Keep H H2 a b := fun c o e n1 n2 => k c o (h c o e n1 n2) n1 n2
theorem Keep.same {H H1 H2 : Hp} {a b : Addr} (h : Same H H1) (k : Keep H1 H2 a b) : Keep H H2 a b := fun c o e n1 n2 => k c o (h c o e) n1 n2
theorem Keep.then {H H1 H2 : Hp} {a b : Addr} (h : Keep H H1 a b) (k : Same H1 H2) : Keep H H2 a b := fun c o e n1 n2 => k c o (h c o e n1 n2)
theorem Keep.updA {H H1 : Hp} {a b : Addr} {o : HO} (h : Keep H H1 a b) : Keep H (upd H1 a o) a b := fun c u e n1 n2 => by
  rw [upd_ne n1]
  exact h c u e n1 n2
theorem Keep.updB {H H1 : Hp} {a b : Addr} {o : HO} (h : Keep H H1 a b) : Keep H (upd H1 b o) a b := fun c u e n1 n2 => by
  rw [upd_ne n2]
  exact h c u e n1 n2
theorem Keep.sub {HL H H1 : Hp} {a b : Addr} (h : Keep H H1 a b) (s : Same HL H) (na : HL a = none) (nb : HL b = none) : Same HL H1 := fun c o e =>
  h c o (s c o e) (ne_of_none e na) (ne_of_none e nb)
/-- a layout that stands apart from the two lists at a and b -/
structure Two (CL : Addr) (H : Hp) (l a b : Addr) (g : Ground) (m w : List Nat) : Prop where
  lay : ∃ HL, Lay CL HL l g ∧ Same HL H ∧ HL a = none ∧ HL b = none
  ab : a ≠ b
  im : IL H a m
  iw : IL H b w
  ml : m.length = Vbwsar.size g
  wl : w.length = Vbwsar.size g
theorem Two.keep {CL : Addr} {H H' : Hp} {l a b : Addr} {g : Ground} {m w m' w' : List Nat} (t : Two CL H l a b g m w) (k : Keep H H' a b) (hm : IL H' a m') (hw : IL H' b w') (ml : m'.length = m.length) (wl : w'.length = w.length) : Two CL H' l a b g m' w' := by
  obtain ⟨HL, L, s, na, nb⟩ := t.lay
  exact ⟨⟨HL, L, k.sub s na nb, na, nb⟩, t.ab, hm, hw, ml.trans t.ml, wl.trans t.wl⟩
theorem Two.same {CL : Addr} {H H' : Hp} {l a b : Addr} {g : Ground} {m w : List Nat} (t : Two CL H l a b g m w) (s : Same H H') : Two CL H' l a b g m w :=
  t.keep (fun c o e _ _ => s c o e) (s _ _ t.im) (s _ _ t.iw) rfl rfl
theorem Two.layout {CL : Addr} {H : Hp} {l a b : Addr} {g : Ground} {m w : List Nat} (t : Two CL H l a b g m w) : Lay CL H l g := t.lay.elim fun HL h => h.1.same h.2.1
/-- both lists stored at a place -/
theorem Two.setM {CL : Addr} {H : Hp} {l a b : Addr} {g : Ground} {m w : List Nat} {k v : Nat} (t : Two CL H l a b g m w) : Two CL (upd H a (.lst ((vn m).set k (V.int (v : Int))))) l a b g (m.set k v) w :=
  t.keep (Keep.refl H a b).updA IL.set (by unfold IL; rw [upd_ne (fun e => t.ab e.symm)]; exact t.iw) (List.length_set ..) rfl
theorem Two.setW {CL : Addr} {H : Hp} {l a b : Addr} {g : Ground} {m w : List Nat} {k v : Nat} (t : Two CL H l a b g m w) : Two CL (upd H b (.lst ((vn w).set k (V.int (v : Int))))) l a b g m (w.set k v) :=
  t.keep (Keep.refl H a b).updB (by unfold IL; rw [upd_ne t.ab]; exact t.im) IL.set rfl (List.length_set ..)
/-! ## let_fall -/
abbrev sFall : Stmt := top 42
abbrev NFall : List Str := ["layout", "materials", "water", "cell", "below"]
theorem scFall : FnScope NFall ["layout", "materials", "water"] (defScope sFall) := ⟨rfl, rfl, rfl, by decide +kernel, rfl, by decide +kernel, by decide +kernel⟩
/-- what a def promises that changes the two lists -/
def spTwo (CL : Addr) (f : Ground → List Nat → List Nat → List Nat × List Nat) : Sp := fun vs H Q _ => ∃ (l a b : Addr) (g : Ground) (m w : List Nat), vs = [.ref l, .ref a, .ref b] ∧ Two CL H l a b g m w ∧ Vbwsar.size g ≤ 600 ∧ (∀ k, w.getD k 0 ≤ 8) ∧
  ∀ (H' : Hp), Keep H H' a b → Two CL H' l a b g (f g m w).1 (f g m w).2 → Q .non H'
theorem optV_int (j : Nat) : optV (some j) = V.int (j : Int) := rfl
section
variable {P : Program} {w : World} {K : PySem.W.Frag} {mg : Str → Option Value} {base : Heap} {CL CG : Addr}
theorem ok_fall {f fH : Addr} {fd fdH : FuncData} (F : Fun K "let_fall" "let_fall" sFall f fd) (T : Txt K mg CL CG)
    (FH : Fun K "loose_cells" "loose_cells" sLoose fH fdH) (GH : FnOk P w K mg base CX0 3 fH fdH ["layout", "materials"] (spLoose CL)) (gH : mg "loose_cells" = some (.ref fH)) (bH : Binds K fdH ["layout", "materials"] []) : FnOk P w K mg base CX0 4 f fd ["layout", "materials", "water"] (spTwo CL fallM) := by
  refine F.ok scFall (fun vs H Q E h => ?_) (fun cdv A outer s H vs Q E hr h => ?_)
  · obtain ⟨_, _, _, _, _, _, rfl, _⟩ := h
    rfl
  · have hu := hu_of hr
    refine ⟨_, pss_one (ps_for PassesOwn.never rfl (pi_list (pe_call GH hr rfl gH FH.kp bH .nil pass0 (pa_cons (pv 0) (pa_cons (pv 1) pa_nil)))) (pg_name (i := 3) scFall.nd rfl (Or.inl rfl))
      (pss_cons (ps_set (i := 4) scFall.nd rfl (Or.inl rfl) (pe_ix ix_list (pe_fld (pv 0) rfl) (pv 3) (fun _ _ => rfl)))
      (pss_one (ps_if (PW.pt (pw_and (pt_cmpR op_notN (pv 4) pe_non (nomark _)) (pw_and1 (pt_cmpR op_eq (pe_ix ix_list (pv 1) (pv 4) (fun _ _ => rfl)) (pe_gi T.gAIR) (nomark _)))))
        (pss_cons (ps_asg (pe_ix ix_list (pv 1) (pv 3) (fun _ _ => rfl)) (pg_sub (pv 1) (pv 4) set_list))
        (pss_cons (ps_asg (pe_gi T.gAIR) (pg_sub (pv 1) (pv 3) set_list))
        (pss_cons (ps_asg (pe_ix ix_list (pv 2) (pv 4) (fun _ _ => rfl)) (pg_sub (pv 2) (pv 3) set_list))
        (pss_one (ps_asg pe_int (pg_sub (pv 2) (pv 4) set_list))))))
        pss_nil)))), ?_⟩
    obtain ⟨l, a, b, g, m, w, rfl, t, hsz, hw8, q⟩ := h
    refine ⟨_, rfl, _, rfl, l, a, g, m, rfl, t.layout, t.im, t.ml, hsz, fun H1 p s1 hp e1 => ?_⟩
    have t1 := t.same s1
    have pa : p ≠ a := fun e => ne_of_none t.im hp e.symm
    have pb : p ≠ b := fun e => ne_of_none t.iw hp e.symm
    generalize hls : (List.range (Vbwsar.size g)).filter (looseM g m) = ls at e1
    have lsl : ∀ k ∈ ls, k < Vbwsar.size g := fun k hk => by
      subst hls
      exact List.mem_range.mp (List.mem_filter.mp hk).1
    have qf : fallM g m w = ls.foldl (fallStep g) (m, w) := by
      unfold fallM
      rw [hls]
    refine ⟨p, rfl, ⟨_, SqL.of e1⟩, for_list (K := K) (a := p) (xs := vn ls) (fun i σ H' => ∃ c be, σ = [some (.ref l), some (.ref a), some (.ref b), c, be] ∧ Keep H1 H' a b ∧ Two CL H' l a b g ((ls.take i).foldl (fallStep g) (m, w)).1 ((ls.take i).foldl (fallStep g) (m, w)).2)
      ⟨_, _, rfl, Keep.refl H1 a b, t1⟩ (fun i σ H' _ ⟨_, _, _, k2, _⟩ => SqL.of (k2 _ _ e1 pa pb)) ?_ ?_⟩
    · rintro i x σ H2 hi ⟨c, be, rfl, k2, t2⟩
      obtain ⟨k, hk, rfl⟩ := at_vn hi
      have kl := lsl k (List.mem_of_getElem? hk)
      rw [foldl_more hk]
      generalize (ls.take i).foldl (fallStep g) (m, w) = y at t2
      obtain ⟨m2, w2⟩ := y
      have t2 : Two CL H2 l a b g m2 w2 := t2
      obtain ⟨d, L⟩ := t2.layout
      refine ⟨_, rfl, l, CL, d.dx, _, _, rfl, L.ins, T.clL, T.aBelow, L.fBelow, _, rfl, d.be, _, _, _, rfl, rfl, SqL.of L.below, L.belowAt kl, ?_⟩
      cases e : Vbwsar.below g k with
      | none =>
        have fs : fallStep g (m2, w2) k = (m2, w2) := by
          unfold fallStep
          rw [e]
        rw [fs]
        exact ⟨_, rfl, rfl, _, rfl, iteF (iteF ⟨_, _, rfl, k2, t2⟩)⟩
      | some j =>
        have jl : j < Vbwsar.size g := GT.around_lt kl (GT.below_around e)
        have jm : j < m2.length := by rw [t2.ml]; exact jl
        have km : k < m2.length := by rw [t2.ml]; exact kl
        have jw : j < w2.length := by rw [t2.wl]; exact jl
        have kw : k < w2.length := by rw [t2.wl]; exact kl
        have fs : fallStep g (m2, w2) k = if m2.getD j 0 = 0 then ((m2.set j (m2.getD k 0)).set k 0, (w2.set k (w2.getD j 0)).set j 0) else (m2, w2) := by
          unfold fallStep
          rw [e]
        refine ⟨_, rfl, rfl, _, rfl, iteT ⟨_, rfl, _, rfl, a, _, _, _, rfl, rfl, SqL.of t2.im, vn_atI jm, rfl, _, rfl, ?_⟩⟩
        rw [int_eq0]
        cases c0 : (m2.getD j 0 == 0) with
        | false =>
          have fs2 : fallStep g (m2, w2) k = (m2, w2) := by rw [fs, if_neg (by simpa using c0)]
          rw [fs2]
          exact iteF ⟨_, _, rfl, k2, t2⟩
        | true =>
          have fs2 : fallStep g (m2, w2) k = ((m2.set j (m2.getD k 0)).set k 0, (w2.set k (w2.getD j 0)).set j 0) := by rw [fs, if_pos (by simpa using c0)]
          rw [fs2]
          have t3 := t2.setM (k := j) (v := m2.getD k 0)
          have t4 := t3.setM (k := k) (v := 0)
          have t5 := t4.setW (k := k) (v := w2.getD j 0)
          have t6 := t5.setW (k := j) (v := 0)
          refine iteT ⟨_, rfl, _, rfl, a, _, _, _, rfl, rfl, SqL.of t2.im, vn_atI km, _, rfl, _, rfl, a, _, _, j, rfl, rfl, t2.im, vn_ixN jm, ?_⟩
          refine ⟨_, rfl, _, rfl, a, _, _, k, rfl, rfl, t3.im, vn_ixN (by rw [List.length_set]; exact km), ?_⟩
          refine ⟨_, rfl, _, rfl, b, _, _, _, rfl, rfl, SqL.of t4.iw, vn_atI jw, _, rfl, _, rfl, b, _, _, k, rfl, rfl, t4.iw, vn_ixN kw, ?_⟩
          refine ⟨_, rfl, _, rfl, b, _, _, j, rfl, rfl, t5.iw, vn_ixN (by rw [List.length_set]; exact jw), ?_⟩
          exact ⟨_, _, rfl, k2.updA.updA.updB.updB, t6⟩
    · rintro σ H2 ⟨c, be, rfl, k2, t2⟩
      rw [vn_len, List.take_length, ← qf] at t2
      exact q H2 (Keep.same s1 k2) t2
end
end Gr
set_option Elab.async false
set_option linter.all false
set_option maxRecDepth 100000
set_option maxHeartbeats 4000000
namespace Gr
open PySem PySem.Spec PyProof.Rows L2
open Vbwsar (Ground)
/-! ## += and -= of whole numbers that stay so -/
def ipAddN : TIp := fun x y H Q => ∃ n p : Nat, x = .int (n : Int) ∧ y = .int (p : Int) ∧ Q (.int ((n + p : Nat) : Int)) H
def ipSubN : TIp := fun x y H Q => ∃ n p : Nat, x = .int (n : Int) ∧ y = .int (p : Int) ∧ p ≤ n ∧ Q (.int ((n - p : Nat) : Int)) H
theorem ip_addN {X : Cx} : PIp X .Add ipAddN := by
  intro pins s σ H x y v u Q I r1 r2 h
  obtain ⟨n, p, e1, e2, q⟩ := h
  refine ip_add pins s σ H x y v u Q I r1 r2 ⟨_, _, e1, e2, ?_⟩
  show Q (.int ((n : Int) + (p : Int))) H
  rw [← Int.natCast_add]
  exact q
theorem ip_subN {X : Cx} : PIp X .Sub ipSubN := by
  intro pins s σ H x y v u Q I r1 r2 h
  obtain ⟨n, p, e1, e2, l, q⟩ := h
  refine ip_sub pins s σ H x y v u Q I r1 r2 ⟨_, _, e1, e2, ?_⟩
  show Q (.int ((n : Int) - (p : Int))) H
  rw [← Int.natCast_sub l]
  exact q
/-! ## run_down, run_aside: the mathematics -/
/-! ## the defs -/
abbrev sDown : Stmt := top 43
abbrev NDown : List Str := ["layout", "materials", "water", "cell", "below", "parts"]
theorem scDown : FnScope NDown ["layout", "materials", "water", "cell"] (defScope sDown) := ⟨rfl, rfl, rfl, by decide +kernel, rfl, by decide +kernel, by decide +kernel⟩
abbrev sAside : Stmt := top 44
abbrev NAside : List Str := ["layout", "materials", "water", "cell", "least", "near"]
theorem scAside : FnScope NAside ["layout", "materials", "water", "cell"] (defScope sAside) := ⟨rfl, rfl, rfl, by decide +kernel, rfl, by decide +kernel, by decide +kernel⟩
abbrev sRun : Stmt := top 45
abbrev NRun : List Str := ["layout", "materials", "water", "cell"]
theorem scRun : FnScope NRun ["layout", "materials", "water"] (defScope sRun) := ⟨rfl, rfl, rfl, by decide +kernel, rfl, by decide +kernel, by decide +kernel⟩
/-- what a def promises that changes the water by one cell's -/
def spCell (CL : Addr) (f : Ground → List Nat → List Nat → Nat → List Nat) : Sp := fun vs H Q _ => ∃ (l a b : Addr) (g : Ground) (m w : List Nat) (k : Nat), vs = [.ref l, .ref a, .ref b, .int k] ∧ Two CL H l a b g m w ∧ (∀ k, w.getD k 0 ≤ 8) ∧ k < Vbwsar.size g ∧
  ∀ (H' : Hp), Keep H H' a b → Two CL H' l a b g m (f g m w k) → Q .non H'
section
variable {P : Program} {w : World} {K : PySem.W.Frag} {mg : Str → Option Value} {base : Heap} {CL CG : Addr}
theorem ok_down {f fH : Addr} {fd fdH : FuncData} (F : Fun K "run_down" "run_down" sDown f fd) (T : Txt K mg CL CG)
    (FH : Fun K "room_in" "room_in" sRoom fH fdH) (GH : FnOk P w K mg base CX0 1 fH fdH NRoom spRoom) (gH : mg "room_in" = some (.ref fH)) (bH : Binds K fdH NRoom []) : FnOk P w K mg base CX0 2 f fd ["layout", "materials", "water", "cell"] (spCell CL downM) := by
  refine F.ok scDown (fun vs H Q E h => ?_) (fun cdv A outer s H vs Q E hr h => ?_)
  · obtain ⟨_, _, _, _, _, _, _, rfl, _⟩ := h
    rfl
  · refine ⟨_, pss_cons (ps_set (i := 4) scDown.nd rfl (Or.inl rfl) (pe_ix ix_list (pe_fld (pv 0) rfl) (pv 3) (fun _ _ => rfl)))
      (pss_one (ps_if (pt_cmpR op_notN (pv 4) pe_non (nomark _))
        (pss_cons (ps_set (i := 5) scDown.nd rfl (Or.inl rfl) (pe_callB (call_min2 rfl) (by rfl) T.nmin (by decide +kernel) (pa_cons (pe_ix ix_list (pv 2) (pv 3) (fun _ _ => rfl)) (pa_cons (pe_call GH hr rfl gH FH.kp bH .nil pass0 (pa_cons (pv 1) (pa_cons (pv 2) (pa_cons (pv 4) pa_nil)))) pa_nil))))
        (pss_cons (ps_augS (pv 2) (pv 3) get_listN (pv 5) ip_subN set_list)
        (pss_one (ps_augS (pv 2) (pv 4) get_listN (pv 5) ip_addN set_list))))
        pss_nil)), ?_⟩
    obtain ⟨l, a, b, g, m, w, k, rfl, t, hw8, kl, q⟩ := h
    obtain ⟨d, L⟩ := t.layout
    unfold downM at q
    refine ⟨_, rfl, l, CL, d.dx, _, _, rfl, L.ins, T.clL, T.aBelow, L.fBelow, _, rfl, d.be, _, _, _, rfl, rfl, SqL.of L.below, L.belowAt kl, ?_⟩
    cases e : Vbwsar.below g k with
    | none =>
      rw [e] at q
      exact ⟨_, rfl, rfl, _, rfl, iteF (q H (Keep.refl _ _ _) t)⟩
    | some j =>
      rw [e] at q
      dsimp only at q
      have jl : j < Vbwsar.size g := GT.around_lt kl (GT.below_around e)
      have jk : k ≠ j := fun z => by
        have := GT.below_lt kl e
        omega
      have jm : j < m.length := by rw [t.ml]; exact jl
      have jw : j < w.length := by rw [t.wl]; exact jl
      have kw : k < w.length := by rw [t.wl]; exact kl
      refine ⟨_, rfl, rfl, _, rfl, iteT ⟨_, rfl, _, rfl, b, _, _, _, rfl, rfl, SqL.of t.iw, vn_atI kw, _, rfl, _, rfl, _, rfl, a, b, m, w, j, rfl, t.im, t.iw, jm, jw, hw8 j, _, _, rfl, ?_⟩⟩
      rw [show (if ((roomM m w j : Nat) : Int) < ((w.getD k 0 : Nat) : Int) then ((roomM m w j : Nat) : Int) else ((w.getD k 0 : Nat) : Int)) = ((min (w.getD k 0) (roomM m w j) : Nat) : Int) by
        split <;> omega]
      generalize hp : min (w.getD k 0) (roomM m w j) = p at q
      have pk : p ≤ w.getD k 0 := by omega
      refine ⟨_, rfl, _, rfl, b, _, k, _, rfl, rfl, t.iw, vn_at kw, _, rfl, _, _, rfl, rfl, pk, b, _, _, k, rfl, rfl, t.iw, vn_ixN kw, ?_⟩
      have t1 := t.setW (k := k) (v := w.getD k 0 - p)
      refine ⟨_, rfl, _, rfl, b, _, j, _, rfl, rfl, t1.iw, vn_at (by rw [List.length_set]; exact jw), _, rfl, _, _, rfl, rfl, b, _, _, j, rfl, rfl, t1.iw, vn_ixN (by rw [List.length_set]; exact jw), ?_⟩
      rw [getD_set_ne jk]
      exact q _ (Keep.refl H a b).updB.updB (t1.setW (k := j) (v := w.getD j 0 + p))
end
end Gr
set_option Elab.async false
set_option linter.all false
set_option maxRecDepth 100000
set_option maxHeartbeats 4000000
namespace Gr
open PySem PySem.Spec PyProof.Rows L2
open Vbwsar (Ground)
theorem small5000 {n : Nat} (h : n ≤ 5000) : n < sizeLine := Nat.lt_of_le_of_lt h (by decide)
theorem flat_more {A : Type} {f : Nat → List A} {n : Nat} : (List.range (n + 1)).flatMap f = (List.range n).flatMap f ++ f n := by
  rw [range_more, List.flatMap_append]
  simp
theorem rowM_len {g : Ground} {m w : List Nat} {z y : Nat} : (rowM g m w z y).length = g.sx + 1 := by
  unfold rowM
  rw [List.length_append, List.length_map, List.length_range]
  rfl
theorem flat_len {f : Nat → List Nat} {c : Nat} (h : ∀ k, (f k).length = c) : ∀ n, ((List.range n).flatMap f).length = n * c
  | 0 => by simp
  | n + 1 => by
    rw [flat_more, List.length_append, flat_len h n, h n, Nat.add_mul, Nat.one_mul]
theorem layTextM_len {g : Ground} {m w : List Nat} {z : Nat} : (layTextM g m w z).length = g.sy * (g.sx + 1) + 1 := by
  unfold layTextM
  rw [List.length_append, flat_len (fun k => rowM_len)]
  rfl
theorem textM_len {g : Ground} {m w : List Nat} : (textM g m w).length = g.sz * (g.sy * (g.sx + 1) + 1) := flat_len (fun k => layTextM_len) _
theorem text_most {g : Ground} (h : g.sx ≤ 12 ∧ g.sy ≤ 12 ∧ g.sz ≤ 12) {z y x : Nat} (hz : z ≤ g.sz) (hy : y ≤ g.sy) (hx : x ≤ g.sx) : z * (g.sy * (g.sx + 1) + 1) + (y * (g.sx + 1) + (x + 2)) ≤ 2500 := by
  have a : g.sy * (g.sx + 1) ≤ 12 * 13 := Nat.mul_le_mul h.2.1 (by omega)
  have b : z * (g.sy * (g.sx + 1) + 1) ≤ 12 * 157 := Nat.mul_le_mul (by omega) (by omega)
  have c : y * (g.sx + 1) ≤ 12 * 13 := Nat.mul_le_mul (by omega) (by omega)
  omega
abbrev sSign : Stmt := top 36
abbrev NSign : List Str := ["material", "water"]
theorem scSign : FnScope NSign ["material", "water"] (defScope sSign) := ⟨rfl, rfl, rfl, by decide +kernel, rfl, by decide +kernel, by decide +kernel⟩
def spSign : Sp := fun vs H Q _ => ∃ (n k : Nat), vs = [.int (n : Int), .int (k : Int)] ∧ n ≤ 5 ∧ Q (.int ((if 0 < k then 48 + k else Vbwsar.SIGNS.getD n 46 : Nat) : Int)) H
abbrev sText : Stmt := top 35
abbrev NText : List Str := ["sides", "materials", "water", "width", "depth", "height", "octets", "cell", "z", "y", "x"]
theorem scText : FnScope NText ["sides", "materials", "water"] (defScope sText) := ⟨rfl, rfl, rfl, by decide +kernel, rfl, by decide +kernel, by decide +kernel⟩
def spText : Sp := fun vs H Q _ => ∃ (sa a b : Addr) (g : Ground) (m w : List Nat), vs = [.ref sa, .ref a, .ref b] ∧ H sa = some (.tup [.int (g.sx : Int), .int (g.sy : Int), .int (g.sz : Int)]) ∧ IL H a m ∧ IL H b w ∧ m.length = Vbwsar.size g ∧ w.length = Vbwsar.size g ∧
  (∀ k, m.getD k 0 ≤ 5) ∧ (g.sx ≤ 12 ∧ g.sy ≤ 12 ∧ g.sz ≤ 12) ∧ ∀ H' p, Same H H' → H p = none → IL H' p (textM g m w) → Q (.ref p) H'
section
variable {P : Program} {w : World} {K : PySem.W.Frag} {mg : Str → Option Value} {base : Heap} {CL CG aS : Addr}
theorem ok_sign {f : Addr} {fd : FuncData} (F : Fun K "sign_of" "sign_of" sSign f fd) (T : Txt K mg CL CG) (TS : TxtS K mg aS) : FnOk P w K mg base CX0 1 f fd ["material", "water"] spSign := by
  refine F.ok scSign (fun vs H Q E h => ?_) (fun cdv A outer s H vs Q E hr h => ?_)
  · obtain ⟨_, _, rfl, _⟩ := h
    rfl
  · refine ⟨_, pss_cons (ps_if (pt_cmpR op_gt (pv 1) pe_int (nomark _)) (pss_one (ps_ret (pe_op op_add (pe_gi T.gNOW) (pv 1)))) pss_nil)
      (pss_one (ps_ret (pe_ix ix_tup (pe_glob (v := V.ref aS) (by rfl) TS.g rfl) (pv 0) (fun _ _ => rfl)))), ?_⟩
    obtain ⟨n, k, rfl, hn, q⟩ := h
    refine ⟨_, rfl, _, _, rfl, rfl, _, rfl, ?_⟩
    rw [lt0N]
    by_cases c : 0 < k
    · rw [decide_eq_true c]
      rw [if_pos c] at q
      exact iteT ⟨_, rfl, _, _, rfl, rfl, q⟩
    · rw [decide_eq_false c]
      rw [if_neg c] at q
      refine iteF ⟨_, rfl, aS, _, _, _, rfl, rfl, TS.sq _, vn_atI (k := n) (by show n < 6; omega), ?_⟩
      have e : [46, 35, 58, 42, 79, 61].getD n 0 = Vbwsar.SIGNS.getD n 46 := by
        match n, hn with
        | 0, _ => rfl
        | 1, _ => rfl
        | 2, _ => rfl
        | 3, _ => rfl
        | 4, _ => rfl
        | 5, _ => rfl
      rw [e]
      exact q
theorem ok_text {f fS : Addr} {fd fdS : FuncData} (F : Fun K "text_of" "text_of" sText f fd) (T : Txt K mg CL CG) (TS : TxtS K mg aS) (D : DefN K mg "sign_of" sSign ["material", "water"] fS fdS) : FnOk P w K mg base CX0 2 f fd ["sides", "materials", "water"] spText := by
  have GS : FnOk P w K mg base CX0 1 fS fdS ["material", "water"] spSign := ok_sign D.F T TS
  refine F.ok scText (fun vs H Q E h => ?_) (fun cdv A outer s H vs Q E hr h => ?_)
  · obtain ⟨_, _, _, _, _, _, rfl, _⟩ := h
    rfl
  · refine ⟨_, pss_cons (ps_asg (pv 0) (pg_tup (by rfl) (pgs_cons (pg_name (i := 3) scText.nd rfl (Or.inl rfl)) (pgs_cons (pg_name (i := 4) scText.nd rfl (Or.inl rfl)) (pgs_cons (pg_name (i := 5) scText.nd rfl (Or.inl rfl)) pgs_nil)))))
      (pss_cons (ps_set (i := 6) scText.nd rfl (Or.inl rfl) (pe_lst pa_nil))
      (pss_cons (ps_set (i := 7) scText.nd rfl (Or.inl rfl) pe_int)
      (pss_cons (ps_for PassesOwn.never rfl (pi_range1 (by rfl) T.nrange (pa_cons (pv 5) pa_nil)) (pg_name (i := 8) scText.nd rfl (Or.inl rfl))
        (pss_cons (ps_for PassesOwn.never rfl (pi_range1 (by rfl) T.nrange (pa_cons (pv 4) pa_nil)) (pg_name (i := 9) scText.nd rfl (Or.inl rfl))
          (pss_cons (ps_for PassesOwn.never rfl (pi_range1 (by rfl) T.nrange (pa_cons (pv 3) pa_nil)) (pg_name (i := 10) scText.nd rfl (Or.inl rfl))
            (pss_cons (ps_expr (pe_bm PySem.F.plainAttrs_list PySem.F.slot_list_append PySem.F.type_list_append mt_append (pv 6) (pa_cons (pe_call GS hr rfl D.g D.F.kp D.b .nil pass0 (pa_cons (pe_ix ix_list (pv 1) (pv 7) (fun _ _ => rfl)) (pa_cons (pe_ix ix_list (pv 2) (pv 7) (fun _ _ => rfl)) pa_nil))) pa_nil)))
            (pss_one (ps_aug (i := 7) scText.nd rfl (Or.inl rfl) pe_int ip_addN))))
          (pss_one (ps_expr (pe_bm PySem.F.plainAttrs_list PySem.F.slot_list_append PySem.F.type_list_append mt_append (pv 6) (pa_cons (pe_gi T.gROW) pa_nil))))))
        (pss_one (ps_expr (pe_bm PySem.F.plainAttrs_list PySem.F.slot_list_append PySem.F.type_list_append mt_append (pv 6) (pa_cons (pe_gi T.gROW) pa_nil))))))
      (pss_one (ps_ret (pv 6)))))), ?_⟩
    obtain ⟨sa, a, b, g, m, w, rfl, hsa, hm, hw, ml, wl, m5, ⟨sx, sy, sz⟩, q⟩ := h
    refine ⟨_, rfl, sa, _, rfl, SqT.of hsa, rfl, _, _, rfl, _, _, rfl, _, _, rfl, rfl, ?_⟩
    refine ⟨(by show 0 ≤ sizeLine; decide), fun p hp => ?_⟩
    generalize g1 : upd H p _ = H1
    obtain ⟨s1, e1⟩ := newS hp g1
    have st : ∀ {H' : Hp} {l : List Nat} {k : Nat}, Same H H' → IL H' p l → Same H (upd H' p (.lst (vn l ++ [V.int (k : Int)]))) ∧ IL (upd H' p (.lst (vn l ++ [V.int (k : Int)]))) p (l ++ [k]) := fun s e =>
      ⟨same_upd s hp, by unfold IL; rw [upd_same]; exact congrArg (fun z => some (HO.lst z)) vn_snoc⟩
    refine ⟨_, rfl, _, rfl, by omega, by omega, ?_⟩
    refine for_range (lo := 0) (n := g.sz) (fun i σ H' => ∃ c1 c2 c3, σ = [some (.ref sa), some (.ref a), some (.ref b), some (.int (g.sx : Int)), some (.int (g.sy : Int)), some (.int (g.sz : Int)), some (.ref p), some (.int (Vbwsar.keyOf g ⟨0, 0, i⟩ : Int)), c1, c2, c3] ∧ Same H H' ∧ IL H' p ((List.range i).flatMap (layTextM g m w)))
      ⟨none, none, none, ?_, s1, e1⟩ ?_ ?_
    · have z : Vbwsar.keyOf g ⟨0, 0, 0⟩ = 0 := by
        show (0 * g.sy + 0) * g.sx + 0 = 0
        rw [Nat.zero_mul, Nat.zero_add, Nat.zero_mul]
      rw [z]
      rfl
    · rintro z σ H2 hz ⟨c1, c2, c3, rfl, s2, e2⟩
      rw [Int.zero_add]
      have l2 : ((List.range z).flatMap (layTextM g m w)).length = z * (g.sy * (g.sx + 1) + 1) := flat_len (fun k => layTextM_len) z
      rw [flat_more]
      generalize (List.range z).flatMap (layTextM g m w) = t2 at *
      rw [show layTextM g m w z = (List.range g.sy).flatMap (rowM g m w z) ++ [10] from rfl]
      refine ⟨_, rfl, _, rfl, by omega, by omega, ?_⟩
      refine for_range (lo := 0) (n := g.sy) (fun i σ H' => ∃ c2 c3, σ = [some (.ref sa), some (.ref a), some (.ref b), some (.int (g.sx : Int)), some (.int (g.sy : Int)), some (.int (g.sz : Int)), some (.ref p), some (.int (Vbwsar.keyOf g ⟨0, i, z⟩ : Int)), some (.int (z : Int)), c2, c3] ∧ Same H H' ∧ IL H' p (t2 ++ (List.range i).flatMap (rowM g m w z)))
        ⟨_, _, rfl, s2, by rw [List.range_zero, List.flatMap_nil, List.append_nil]; exact e2⟩ ?_ ?_
      · rintro y σ H3 hy ⟨c2, c3, rfl, s3, e3⟩
        rw [Int.zero_add]
        have l3 : ((List.range y).flatMap (rowM g m w z)).length = y * (g.sx + 1) := flat_len (fun k => rowM_len) y
        rw [flat_more, ← List.append_assoc]
        generalize hr2 : (List.range y).flatMap (rowM g m w z) = r2 at *
        have l3' : (t2 ++ r2).length = z * (g.sy * (g.sx + 1) + 1) + y * (g.sx + 1) := by rw [List.length_append, l2, l3]
        generalize t2 ++ r2 = t3 at *
        rw [show rowM g m w z y = ((List.range g.sx).map fun x => signM m w ((z * g.sy + y) * g.sx + x)) ++ [10] from rfl]
        refine ⟨_, rfl, _, rfl, by omega, by omega, ?_⟩
        refine for_range (lo := 0) (n := g.sx) (fun i σ H' => ∃ c3, σ = [some (.ref sa), some (.ref a), some (.ref b), some (.int (g.sx : Int)), some (.int (g.sy : Int)), some (.int (g.sz : Int)), some (.ref p), some (.int (Vbwsar.keyOf g ⟨i, y, z⟩ : Int)), some (.int (z : Int)), some (.int (y : Int)), c3] ∧ Same H H' ∧ IL H' p (t3 ++ (List.range i).map fun x => signM m w ((z * g.sy + y) * g.sx + x)))
          ⟨_, rfl, s3, by rw [List.range_zero, List.map_nil, List.append_nil]; exact e3⟩ ?_ ?_
        · rintro x σ H4 hx ⟨c3, rfl, s4, e4⟩
          rw [Int.zero_add]
          have kl : Vbwsar.keyOf g ⟨x, y, z⟩ < Vbwsar.size g := GT.key_lt hx hy hz
          have big := text_most ⟨sx, sy, sz⟩ (Nat.le_of_lt hz) (Nat.le_of_lt hy) (Nat.le_of_lt hx)
          refine ⟨_, rfl, .inl ⟨rfl, _, SqL.of e4⟩, _, rfl, _, rfl, a, _, _, _, rfl, rfl, SqL.of (s4 _ _ hm), vn_atI (by rw [ml]; exact kl), _, rfl, _, rfl, b, _, _, _, rfl, rfl, SqL.of (s4 _ _ hw), vn_atI (by rw [wl]; exact kl), _, _, rfl, m5 _, p, _, _, rfl, rfl, e4, ?_, ?_⟩
          · rw [vn_len, List.length_append, List.length_map, List.length_range, l3']
            exact small5000 (by omega)
          · have s5 := st (k := signM m w (Vbwsar.keyOf g ⟨x, y, z⟩)) s4 e4
            refine ⟨_, rfl, _, 1, rfl, rfl, ⟨some (.int (x : Int)), rfl, s5.1, ?_⟩⟩
            have e5 := s5.2
            rw [range_more, List.map_append, ← List.append_assoc]
            exact e5
        · rintro σ H4 ⟨c3, rfl, s4, e4⟩
          rw [key_row]
          have big := text_most ⟨sx, sy, sz⟩ (Nat.le_of_lt hz) (Nat.le_of_lt hy) (Nat.le_refl g.sx)
          refine ⟨_, rfl, .inl ⟨rfl, _, SqL.of e4⟩, p, _, _, rfl, rfl, e4, ?_, ?_⟩
          · rw [vn_len, List.length_append, List.length_map, List.length_range, l3']
            exact small5000 (by omega)
          · have s5 := st (k := 10) s4 e4
            refine ⟨_, _, rfl, s5.1, ?_⟩
            rw [← List.append_assoc]
            exact s5.2
      · rintro σ H3 ⟨c2, c3, rfl, s3, e3⟩
        rw [key_lay]
        have l3 : ((List.range g.sy).flatMap (rowM g m w z)).length = g.sy * (g.sx + 1) := flat_len (fun k => rowM_len) g.sy
        have big := text_most ⟨sx, sy, sz⟩ (Nat.le_of_lt hz) (Nat.le_refl g.sy) (Nat.zero_le g.sx)
        refine ⟨_, rfl, .inl ⟨rfl, _, SqL.of e3⟩, p, _, _, rfl, rfl, e3, ?_, ?_⟩
        · rw [vn_len, List.length_append, l3, l2]
          exact small5000 (by omega)
        · have s5 := st (k := 10) s3 e3
          refine ⟨_, _, _, rfl, s5.1, ?_⟩
          rw [← List.append_assoc]
          exact s5.2
    · rintro σ H2 ⟨c1, c2, c3, rfl, s2, e2⟩
      exact ⟨_, rfl, q H2 p s2 hp e2⟩
end
end Gr
set_option Elab.async false
set_option linter.all false
set_option maxRecDepth 100000
set_option maxHeartbeats 4000000
namespace Gr
open PySem PySem.Spec PyProof.Rows L2
open Vbwsar (Ground)
abbrev sLights : Stmt := top 22
abbrev NLights : List Str := ["layout", "materials", "light", "bright", "sources", "source", "near", "cell", "shine"]
theorem scLights : FnScope NLights ["layout", "materials"] (defScope sLights) := ⟨rfl, rfl, rfl, by decide +kernel, rfl, by decide +kernel, by decide +kernel⟩
theorem max_int (a b : Nat) : (if ((b : Int) - 1) > (a : Int) then ((b : Int) - 1) else (a : Int)) = ((max a (b - 1) : Nat) : Int) := by
  split <;> omega
section
variable {P : Program} {w : World} {K : PySem.W.Frag} {mg : Str → Option Value} {base : Heap} {CL CG : Addr}
theorem ok_lights {f fO fW fC fS : Addr} {fd fdO fdW fdC fdS : FuncData} (F : Fun K "lights" "lights" sLights f fd) (T : Txt K mg CL CG) (DC : DefN K mg "is_clear" sClear NClear fC fdC)
    (DO : DefN K mg "open_cells" sOpen ["layout", "materials"] fO fdO) (DW : DefN K mg "own_light" sOwn NOwn fW fdW) (DS : DefN K mg "own_lights" sOwns ["layout", "materials"] fS fdS) : FnOk P w K mg base CX0 4 f fd ["layout", "materials"] (spList CL lightsM) := by
  have GS : FnOk P w K mg base CX0 3 fS fdS ["layout", "materials"] (spList CL ownsM) := ok_owns DS.F T DC DO DW
  have GC : FnOk P w K mg base CX0 1 fC fdC NClear spClear := ok_clear DC.F T
  refine F.ok scLights (fun vs H Q E h => ?_) (fun cdv A outer s H vs Q E hr h => ?_)
  · obtain ⟨_, _, _, _, rfl, _⟩ := h
    rfl
  · have hr1 : Room 1 _ := hr.mono (by decide)
    refine ⟨_, pss_cons (ps_set (i := 2) scLights.nd rfl (Or.inl rfl) (pe_call GS hr rfl DS.g DS.F.kp DS.b .nil pass0 (pa_cons (pv 0) (pa_cons (pv 1) pa_nil))))
      (pss_cons (ps_for PassesOwn.never rfl (pi_range3 (by rfl) T.nrange (pa_cons (pe_gi T.gSKY) (pa_cons pe_int (pa_cons (pe_un un_neg pe_int) pa_nil)))) (pg_name (i := 3) scLights.nd rfl (Or.inr rfl))
        (pss_cons (ps_setLc (i := 4) (own := [("cell", 7), ("shine", 8)]) (g := gTup K 2 (gCons (gName 7) (gCons (gName 8) gNil))) rfl scLights.nd rfl rfl (sw_true rfl rfl rfl (by decide +kernel))
          (pi_enum (by rfl) T.nenum (pa_cons (pv 2) pa_nil)) (blkOk_by (N := NLights) (sc := defScope sLights) (by decide +kernel))
          (fun _ _ _ _ _ => pg_tup rfl (pgs_cons (pg_name (i := 7) scLights.nd rfl (Or.inl rfl)) (pgs_cons (pg_name (i := 8) scLights.nd rfl (Or.inl rfl)) pgs_nil)))
          (fun _ _ _ _ _ => pts_one (pt_cmpR op_eq (pv 8) (pv 3) (nomark _)))
          (fun _ _ _ _ _ => pv 7))
        (pss_one (ps_for PassesOwn.never rfl (pi_list (pv 4)) (pg_name (i := 5) scLights.nd rfl (Or.inl rfl))
          (pss_one (ps_for PassesOwn.never rfl (pi_list (pe_ix ix_list (pe_fld (pv 0) rfl) (pv 5) (fun _ _ => rfl))) (pg_name (i := 6) scLights.nd rfl (Or.inl rfl))
            (pss_one (ps_if (pt_val (pe_call GC hr1 rfl DC.g DC.F.kp DC.b .nil pass0 (pa_cons (pe_ix ix_list (pv 1) (pv 6) (fun _ _ => rfl)) pa_nil)))
              (pss_one (ps_asg (pe_callB (call_max2 rfl) (by rfl) T.nmax (by decide +kernel) (pa_cons (pe_ix ix_list (pv 2) (pv 6) (fun _ _ => rfl)) (pa_cons (pe_op op_sub (pv 3) pe_int) pa_nil))) (pg_sub (pv 2) (pv 6) set_list))) pss_nil))))))))
      (pss_one (ps_ret (pv 2)))), ?_⟩
    obtain ⟨l, a, g, m, rfl, ⟨d, L⟩, hm, hl, sz, q⟩ := h
    have small : ∀ n, n ≤ 600 → n < sizeLine := fun n h => small1000 (by omega)
    refine ⟨_, rfl, _, rfl, l, a, g, m, rfl, ⟨d, L⟩, hm, hl, sz, fun H1 p s1 hp e1 => ?_⟩
    refine ⟨_, rfl, 15, 1, -1, 14, rfl, ?_, ?_⟩
    · exact RgC.neg (i := 15) (j := 1) (by decide) (by decide) (by decide) (by decide)
    refine for_rangeC (lo := 15) (c := -1) (n := 14) (fun i σ H' => ∃ c1 c2 c3 c4 c5 c6, σ = [some (.ref l), some (.ref a), some (.ref p), c1, c2, c3, c4, c5, c6] ∧ Same H H' ∧ IL H' p ((List.range i).foldl (fun l i => levelM g m l (15 - i)) (ownsM g m)))
      ⟨_, _, _, _, _, _, rfl, s1, e1⟩ ?_ ?_
    · rintro i σ H2 hi ⟨c1, c2, c3, c4, c5, c6, rfl, s2, e2⟩
      rw [show (15 : Int) + (i : Int) * (-1) = ((15 - i : Nat) : Int) by omega]
      have lev : (List.range (i + 1)).foldl (fun l i => levelM g m l (15 - i)) (ownsM g m) = levelM g m ((List.range i).foldl (fun l i => levelM g m l (15 - i)) (ownsM g m)) (15 - i) := by
        rw [range_more, List.foldl_append]
        rfl
      rw [lev]
      have ll : ((List.range i).foldl (fun l i => levelM g m l (15 - i)) (ownsM g m)).length = Vbwsar.size g := (levels_len _ _).trans owns_len
      generalize (List.range i).foldl (fun l i => levelM g m l (15 - i)) (ownsM g m) = lt at *
      generalize 15 - i = b at *
      refine ⟨_, rfl, p, vn lt, rfl, SqL.of e2, fun D hD => ?_⟩
      refine lc_it walk_enum (fun j H' => Same H2 H' ∧ IL H' D ((List.range j).filter fun k => lt.getD k 0 == b)) ⟨same_new hD, upd_same⟩ (fun i H' _ h => SqL.of (h.1 _ _ e2)) ?_ ?_
      · rintro j x H3 H4 hj ⟨s3, e3⟩ ⟨t, x1, x2, rfl, ht, rfl, h1, h2⟩
        rw [vn_len] at hj
        injection h1 with h1
        subst h1
        obtain ⟨y, hy, rfl⟩ := at_vn h2
        have yv : y = lt.getD j 0 := by
          rw [List.getD_eq_getElem?_getD, hy]
          rfl
        subst yv
        have s4 : Same H3 (upd H3 t (.tup [.int (j : Int), .int ((lt.getD j 0 : Nat) : Int)])) := same_new ht
        refine ⟨t, _, rfl, SqT.of upd_same, rfl, _, _, rfl, _, _, rfl, rfl, rfl, ?_⟩
        refine ⟨_, rfl, _, rfl, rfl, _, rfl, ?_⟩
        rw [int_eqN]
        cases c : (lt.getD j 0 == b) with
        | true =>
          refine iteT ⟨_, rfl, _, s4 _ _ e3, ?_, same_upd (s3.trans s4) hD, ?_⟩
          · rw [vn_len]
            refine Nat.lt_of_le_of_lt (List.length_filter_le _ _) ?_
            rw [List.length_range]
            exact small _ (by omega)
          · unfold IL
            rw [upd_same, filter_more, if_pos c]
            exact congrArg (fun z => some (HO.lst z)) vn_snoc
        | false =>
          have sk : (List.range (j + 1)).filter (fun k => lt.getD k 0 == b) = (List.range j).filter (fun k => lt.getD k 0 == b) := by
            rw [filter_more, if_neg (by rw [c]; decide)]
          rw [sk]
          exact iteF ⟨s3.trans s4, s4 _ _ e3⟩
      · rintro H3 ⟨s3, e3⟩
        rw [vn_len] at e3
        have e3 : IL H3 D (srcs b lt) := e3
        have pD : p ≠ D := ne_of_none e2 hD
        have D0 : H D = none := s2.free hD
        have src : ∀ n ∈ srcs b lt, n < Vbwsar.size g := fun n hn => by
          rw [← ll]
          exact (mem_srcs.mp hn).1
        refine ⟨_, rfl, D, rfl, ⟨_, SqL.of e3⟩, for_list (K := K) (a := D) (xs := vn (srcs b lt)) (fun j σ H' => ∃ c3 c4 c5 c6, σ = [some (.ref l), some (.ref a), some (.ref p), some (.int (b : Int)), some (.ref D), c3, c4, c5, c6] ∧ Same H H' ∧ IL H' D (srcs b lt) ∧ IL H' p (((srcs b lt).take j).foldl (srcStep g m b) lt))
          ⟨_, _, _, _, rfl, s2.trans s3, e3, s3 _ _ e2⟩ (fun j σ H' _ ⟨_, _, _, _, _, _, h, _⟩ => SqL.of h) ?_ ?_⟩
        · rintro j x σ H4 hj ⟨c3, c4, c5, c6, rfl, s4, e4, f4⟩
          obtain ⟨k, hk, rfl⟩ := at_vn hj
          have kl := src k (List.mem_of_getElem? hk)
          rw [foldl_more hk]
          have ll2 : (((srcs b lt).take j).foldl (srcStep g m b) lt).length = Vbwsar.size g := (srcs_len _ _).trans ll
          generalize ((srcs b lt).take j).foldl (srcStep g m b) lt = l2 at *
          have L4 := L.same s4
          refine ⟨_, rfl, l, CL, d.dx, _, _, rfl, L4.ins, T.clL, T.aAbout, L4.fAbout, _, rfl, d.ab, _, _, _, rfl, rfl, SqL.of L4.about, L4.aboutAt kl, ?_⟩
          have pn : p ≠ d.al.getD k 0 := (ne_of_none (L.aat k kl) hp).symm
          have pa : p ≠ a := (ne_of_none hm hp).symm
          refine ⟨d.al.getD k 0, rfl, ⟨_, SqL.of (L4.aat k kl)⟩, for_list (K := K) (a := d.al.getD k 0) (xs := vn (Vbwsar.around g k)) (fun i σ H' => ∃ c4 c5 c6, σ = [some (.ref l), some (.ref a), some (.ref p), some (.int (b : Int)), some (.ref D), some (.int (k : Int)), c4, c5, c6] ∧ Same H H' ∧ IL H' D (srcs b lt) ∧ IL H' p (((Vbwsar.around g k).take i).foldl (nearStep m b) l2))
            ⟨_, _, _, rfl, s4, e4, f4⟩ (fun i σ H' _ ⟨_, _, _, _, s, _⟩ => SqL.of (s _ _ (L.aat k kl))) ?_ ?_⟩
          · rintro i x σ H5 hi ⟨c4, c5, c6, rfl, s5, e5, f5⟩
            obtain ⟨n, hn, rfl⟩ := at_vn hi
            have nl : n < Vbwsar.size g := GT.around_lt kl (List.mem_of_getElem? hn)
            rw [foldl_more hn]
            have ll3 : (((Vbwsar.around g k).take i).foldl (nearStep m b) l2).length = Vbwsar.size g := (nears_len _ _).trans ll2
            generalize ((Vbwsar.around g k).take i).foldl (nearStep m b) l2 = l3 at *
            refine ⟨_, rfl, _, rfl, a, _, _, _, rfl, rfl, SqL.of (s5 _ _ hm), vn_atI (by rw [hl]; exact nl), _, rfl, fun H6 s6 => ⟨_, rfl, ?_⟩⟩
            have cc : clrV (m.getD n 0) = clrM m n := rfl
            rw [cc]
            cases c : clrM m n with
            | false =>
              have ns : nearStep m b l3 n = l3 := by
                unfold nearStep
                rw [if_neg (by rw [c]; decide)]
              rw [ns]
              exact iteF ⟨_, _, _, rfl, s5.trans s6, s6 _ _ e5, s6 _ _ f5⟩
            | true =>
              have ns : nearStep m b l3 n = l3.set n (max (l3.getD n 0) (b - 1)) := by
                unfold nearStep
                rw [if_pos c]
              rw [ns]
              have f6 := s6 _ _ f5
              refine iteT ⟨_, rfl, _, rfl, p, _, _, _, rfl, rfl, SqL.of f6, vn_atI (by rw [ll3]; exact nl), _, rfl, _, _, rfl, rfl, _, _, rfl, ?_⟩
              rw [max_int]
              refine ⟨_, rfl, _, rfl, p, _, _, n, rfl, rfl, f6, vn_ixN (by rw [ll3]; exact nl), ⟨_, _, _, rfl, same_upd (s5.trans s6) hp, ?_, IL.set⟩⟩
              unfold IL
              rw [upd_ne pD.symm]
              exact s6 _ _ e5
          · rintro σ H5 ⟨c4, c5, c6, rfl, s5, e5, f5⟩
            rw [vn_len, List.take_length] at f5
            exact ⟨_, _, _, _, rfl, s5, e5, f5⟩
        · rintro σ H4 ⟨c3, c4, c5, c6, rfl, s4, e4, f4⟩
          rw [vn_len, List.take_length] at f4
          exact ⟨_, _, _, _, _, _, rfl, s4, f4⟩
    · rintro σ H2 ⟨c1, c2, c3, c4, c5, c6, rfl, s2, e2⟩
      exact ⟨_, rfl, q H2 p s2 hp e2⟩
end
end Gr
set_option Elab.async false
set_option linter.all false
set_option maxRecDepth 100000
set_option maxHeartbeats 4000000
namespace Gr
open PySem PySem.Spec PyProof.Rows L2
open Vbwsar (Ground)
theorem lowStep_solid {m w : List Nat} {o : Option Nat} {j : Nat} (h : ¬ m.getD j 0 = 0) : lowStep m w o j = o := if_neg h
theorem lowStep_none {m w : List Nat} {j : Nat} (h : m.getD j 0 = 0) : lowStep m w none j = some j := if_pos h
theorem lowStep_some {m w : List Nat} {j z : Nat} (h : m.getD j 0 = 0) : lowStep m w (some z) j = if w.getD j 0 < w.getD z 0 then some j else some z := if_pos h
theorem int_le2 (a b : Nat) : decide (((a : Nat) : Int) + 2 ≤ ((b : Nat) : Int)) = decide (a + 2 ≤ b) := by
  by_cases h : a + 2 ≤ b
  · rw [decide_eq_true h, decide_eq_true (by omega)]
  · rw [decide_eq_false h, decide_eq_false (by omega)]
theorem int_lt (a b : Nat) : decide (((a : Nat) : Int) < ((b : Nat) : Int)) = decide (a < b) := by
  by_cases h : a < b
  · rw [decide_eq_true h, decide_eq_true (by omega)]
  · rw [decide_eq_false h, decide_eq_false (by omega)]
theorem int_gt0 (a : Nat) : decide ((0 : Int) < ((a : Nat) : Int)) = decide (0 < a) := int_lt 0 a
theorem int_gt1 (a : Nat) : decide ((1 : Int) < ((a : Nat) : Int)) = decide (1 < a) := int_lt 1 a
section
variable {P : Program} {w : World} {K : PySem.W.Frag} {mg : Str → Option Value} {base : Heap} {CL CG : Addr}
theorem ok_aside {f : Addr} {fd : FuncData} (F : Fun K "run_aside" "run_aside" sAside f fd) (T : Txt K mg CL CG) : FnOk P w K mg base CX0 1 f fd ["layout", "materials", "water", "cell"] (spCell CL asideM) := by
  refine F.ok scAside (fun vs H Q E h => ?_) (fun cdv A outer s H vs Q E hr h => ?_)
  · obtain ⟨_, _, _, _, _, _, _, rfl, _⟩ := h
    rfl
  · refine ⟨_, pss_cons (ps_set (i := 4) scAside.nd rfl (Or.inl rfl) pe_non)
      (pss_cons (ps_for PassesOwn.never rfl (pi_list (pe_ix ix_list (pe_fld (pv 0) rfl) (pv 3) (fun _ _ => rfl))) (pg_name (i := 5) scAside.nd rfl (Or.inl rfl))
        (pss_one (ps_if (PW.pt (pw_and (pt_cmpR op_eq (pe_ix ix_list (pv 1) (pv 5) (fun _ _ => rfl)) (pe_gi T.gAIR) (nomark _))
            (pw_and1 (PW.pt (pw_or (pt_cmpR op_isN (pv 4) pe_non (nomark _)) (pw_or1 (pt_cmpR op_lt (pe_ix ix_list (pv 2) (pv 5) (fun _ _ => rfl)) (pe_ix ix_list (pv 2) (pv 4) (fun _ _ => rfl)) (nomark _))))))))
          (pss_one (ps_set (i := 4) scAside.nd rfl (Or.inl rfl) (pv 5))) pss_nil)))
      (pss_one (ps_if (PW.pt (pw_and (pt_cmpR op_notN (pv 4) pe_non (nomark _)) (pw_and1 (pt_cmpR op_le (pe_op op_add (pe_ix ix_list (pv 2) (pv 4) (fun _ _ => rfl)) pe_int) (pe_ix ix_list (pv 2) (pv 3) (fun _ _ => rfl)) (nomark _)))))
        (pss_cons (ps_augS (pv 2) (pv 3) get_listN pe_int ip_subN set_list)
        (pss_one (ps_augS (pv 2) (pv 4) get_listN pe_int ip_addN set_list)))
        pss_nil))), ?_⟩
    obtain ⟨l, a, b, g, m, w, k, rfl, t, hw8, kl, q⟩ := h
    obtain ⟨d, L⟩ := t.layout
    have jl : ∀ j ∈ Vbwsar.beside g k, j < Vbwsar.size g := fun j hj => GT.around_lt kl (GT.beside_around hj)
    refine ⟨_, rfl, l, CL, d.dx, _, _, rfl, L.ins, T.clL, T.aBeside, L.fBeside, _, rfl, d.bs, _, _, _, rfl, rfl, SqL.of L.beside, L.besideAt kl, _, rfl, ⟨_, SqL.of (L.bat k kl)⟩, ?_⟩
    refine for_list (K := K) (a := d.bl.getD k 0) (xs := vn (Vbwsar.beside g k)) (fun i σ H' => H' = H ∧ ∃ nr, σ = [some (.ref l), some (.ref a), some (.ref b), some (.int (k : Int)), some (optV (((Vbwsar.beside g k).take i).foldl (lowStep m w) none)), nr])
      ⟨rfl, _, rfl⟩ (fun i σ H' _ h => by rw [h.1]; exact SqL.of (L.bat k kl)) ?_ ?_
    · rintro i x σ H' hi ⟨rfl, nr, rfl⟩
      obtain ⟨j, hj, rfl⟩ := at_vn hi
      have jb : j ∈ Vbwsar.beside g k := List.mem_of_getElem? hj
      have jm : j < m.length := by rw [t.ml]; exact jl j jb
      have jw : j < w.length := by rw [t.wl]; exact jl j jb
      rw [foldl_more hj]
      have oin : ∀ z, ((Vbwsar.beside g k).take i).foldl (lowStep m w) none = some z → z < w.length := fun z e => by
        rcases lowStep_in _ _ _ e with y | y
        · rw [t.wl]
          exact jl z (List.mem_of_mem_take y)
        · cases y
      generalize ((Vbwsar.beside g k).take i).foldl (lowStep m w) none = o at oin
      refine ⟨_, rfl, _, rfl, a, _, _, _, rfl, rfl, SqL.of t.im, vn_atI jm, rfl, _, rfl, ?_⟩
      rw [int_eq0]
      cases c0 : (m.getD j 0 == 0) with
      | false =>
        have ls2 : lowStep m w o j = o := lowStep_solid (by simpa using c0)
        rw [ls2]
        exact iteF (iteF ⟨rfl, _, rfl⟩)
      | true =>
        have c1 : m.getD j 0 = 0 := by simpa using c0
        cases o with
        | none =>
          have ls2 : lowStep m w none j = some j := lowStep_none c1
          rw [ls2]
          exact iteT ⟨_, rfl, rfl, _, rfl, iteT (iteT ⟨_, rfl, rfl, _, rfl⟩)⟩
        | some z =>
          have zw := oin z rfl
          have ls2 : lowStep m w (some z) j = if w.getD j 0 < w.getD z 0 then some j else some z := lowStep_some c1
          refine iteT ⟨_, rfl, rfl, _, rfl, iteF ⟨_, rfl, _, rfl, b, _, _, _, rfl, rfl, SqL.of t.iw, vn_atI jw, _, rfl, _, rfl, b, _, _, _, rfl, rfl, SqL.of t.iw, vn_atI zw, _, _, rfl, rfl, _, rfl, ?_⟩⟩
          rw [int_lt]
          by_cases c2 : w.getD j 0 < w.getD z 0
          · rw [decide_eq_true c2]
            rw [if_pos c2] at ls2
            rw [ls2]
            exact iteT ⟨_, rfl, rfl, _, rfl⟩
          · rw [decide_eq_false c2]
            rw [if_neg c2] at ls2
            rw [ls2]
            exact iteF ⟨rfl, _, rfl⟩
    · rintro σ H' ⟨rfl, nr, rfl⟩
      rw [vn_len, List.take_length]
      have hd : lowM g m w k = (Vbwsar.beside g k).foldl (lowStep m w) none := rfl
      rw [← hd]
      unfold asideM at q
      cases e : lowM g m w k with
      | none =>
        rw [e] at q
        exact ⟨_, rfl, rfl, _, rfl, iteF (iteF (q H' (Keep.refl _ _ _) t))⟩
      | some j =>
        rw [e] at q
        dsimp only at q
        have jb := lowM_in e
        have jw : j < w.length := by rw [t.wl]; exact jl j jb
        have kw : k < w.length := by rw [t.wl]; exact kl
        have jk := beside_ne kl jb
        refine ⟨_, rfl, rfl, _, rfl, iteT ⟨_, rfl, _, rfl, b, _, _, _, rfl, rfl, SqL.of t.iw, vn_atI jw, _, _, rfl, rfl, _, rfl, _, rfl, b, _, _, _, rfl, rfl, SqL.of t.iw, vn_atI kw, _, _, rfl, rfl, _, rfl, ?_⟩⟩
        rw [show decide ((fun i j : Int => i + j) ((w.getD j 0 : Nat) : Int) 2 ≤ ((w.getD k 0 : Nat) : Int)) = decide (w.getD j 0 + 2 ≤ w.getD k 0) from int_le2 _ _]
        by_cases c : w.getD j 0 + 2 ≤ w.getD k 0
        · rw [decide_eq_true c]
          rw [if_pos c] at q
          have t1 := t.setW (k := k) (v := w.getD k 0 - 1)
          refine iteT ⟨_, rfl, _, rfl, b, _, k, _, rfl, rfl, t.iw, vn_at kw, _, 1, rfl, rfl, by omega, b, _, _, k, rfl, rfl, t.iw, vn_ixN kw, ?_⟩
          refine ⟨_, rfl, _, rfl, b, _, j, _, rfl, rfl, t1.iw, vn_at (by rw [List.length_set]; exact jw), _, 1, rfl, rfl, b, _, _, j, rfl, rfl, t1.iw, vn_ixN (by rw [List.length_set]; exact jw), ?_⟩
          rw [getD_set_ne jk]
          exact q _ (Keep.refl H' a b).updB.updB (t1.setW (k := j) (v := w.getD j 0 + 1))
        · rw [decide_eq_false c]
          rw [if_neg c] at q
          exact iteF (q H' (Keep.refl _ _ _) t)
theorem ok_run {f fD fA : Addr} {fd fdD fdA : FuncData} (F : Fun K "let_run" "let_run" sRun f fd) (T : Txt K mg CL CG)
    (FD : Fun K "run_down" "run_down" sDown fD fdD) (GD : FnOk P w K mg base CX0 2 fD fdD ["layout", "materials", "water", "cell"] (spCell CL downM)) (gD : mg "run_down" = some (.ref fD)) (bD : Binds K fdD ["layout", "materials", "water", "cell"] [])
    (FA : Fun K "run_aside" "run_aside" sAside fA fdA) (GA : FnOk P w K mg base CX0 1 fA fdA ["layout", "materials", "water", "cell"] (spCell CL asideM)) (gA : mg "run_aside" = some (.ref fA)) (bA : Binds K fdA ["layout", "materials", "water", "cell"] []) :
    FnOk P w K mg base CX0 3 f fd ["layout", "materials", "water"] (spTwo CL fun g m w => (m, runM g m w)) := by
  refine F.ok scRun (fun vs H Q E h => ?_) (fun cdv A outer s H vs Q E hr h => ?_)
  · obtain ⟨_, _, _, _, _, _, rfl, _⟩ := h
    rfl
  · have hr1 : Room 1 _ := hr.mono (by decide)
    refine ⟨_, pss_one (ps_for PassesOwn.never rfl (pi_range1 (by rfl) T.nrange (pa_cons (pe_callB call_len_seq (by rfl) T.nlen PySem.boot_len (pa_cons (pv 2) pa_nil)) pa_nil)) (pg_name (i := 3) scRun.nd rfl (Or.inl rfl))
      (Evl.pss_cut (ps_if (pt_cmpR op_gt (pe_ix ix_list (pv 2) (pv 3) (fun _ _ => rfl)) pe_int (nomark _))
          (pss_one (ps_expr (pe_call GD hr rfl gD FD.kp bD .nil pass0 (pa_cons (pv 0) (pa_cons (pv 1) (pa_cons (pv 2) (pa_cons (pv 3) pa_nil))))))) pss_nil)
      (pss_one (ps_if (pt_cmpR op_gt (pe_ix ix_list (pv 2) (pv 3) (fun _ _ => rfl)) pe_int (nomark _))
          (pss_one (ps_expr (pe_call GA hr1 rfl gA FA.kp bA .nil pass0 (pa_cons (pv 0) (pa_cons (pv 1) (pa_cons (pv 2) (pa_cons (pv 3) pa_nil))))))) pss_nil)))), ?_⟩
    obtain ⟨l, a, b, g, m, w, rfl, t, hsz, hw8, q⟩ := h
    have hwl : (vn w).length = Vbwsar.size g := by rw [vn_len, t.wl]
    refine ⟨_, rfl, b, _, rfl, .inl (SqL.of t.iw), _, rfl, (by rw [hwl]; omega), (by rw [hwl]; omega), ?_⟩
    refine for_range (lo := 0) (n := (vn w).length) (fun i σ H' => ∃ c, σ = [some (.ref l), some (.ref a), some (.ref b), c] ∧ Keep H H' a b ∧ Two CL H' l a b g m ((List.range i).foldl (runStep g m) w))
      ⟨_, rfl, Keep.refl _ _ _, t⟩ ?_ ?_
    · rintro i σ H1 hi ⟨c, rfl, k1, t1⟩
      rw [hwl] at hi
      rw [Int.zero_add, range_more, List.foldl_append]
      have w8 := (runs_most (g := g) (m := m) (List.range i) w hw8).1
      generalize (List.range i).foldl (runStep g m) w = w1 at t1 w8
      have iw : i < w1.length := by rw [t1.wl]; exact hi
      refine ⟨fun σ' H' => σ' = [some (.ref l), some (.ref a), some (.ref b), some (.int (i : Int))] ∧ Keep H H' a b ∧ Two CL H' l a b g m (if 0 < w1.getD i 0 then downM g m w1 i else w1), ?_, ?_⟩
      · refine ⟨_, rfl, _, rfl, b, _, _, _, rfl, rfl, SqL.of t1.iw, vn_atI iw, _, _, rfl, rfl, _, rfl, ?_⟩
        rw [int_gt0]
        by_cases c0 : 0 < w1.getD i 0
        · rw [decide_eq_true c0]
          refine iteT ⟨_, rfl, _, rfl, _, rfl, _, rfl, l, a, b, g, m, w1, i, rfl, t1, w8, hi, fun H2 k2 t2 => ⟨rfl, k1.trans k2, ?_⟩⟩
          rw [if_pos c0]
          exact t2
        · rw [decide_eq_false c0]
          refine iteF ⟨rfl, k1, ?_⟩
          rw [if_neg c0]
          exact t1
      · rintro σ' H2 ⟨rfl, k2, t2⟩
        have w8' : ∀ k, (if 0 < w1.getD i 0 then downM g m w1 i else w1).getD k 0 ≤ 8 := by
          split
          · exact downM_most w8
          · exact w8
        have rs : [i].foldl (runStep g m) w1 = if 1 < (if 0 < w1.getD i 0 then downM g m w1 i else w1).getD i 0 then asideM g m (if 0 < w1.getD i 0 then downM g m w1 i else w1) i else (if 0 < w1.getD i 0 then downM g m w1 i else w1) := rfl
        rw [rs]
        generalize (if 0 < w1.getD i 0 then downM g m w1 i else w1) = w2 at t2 w8'
        have iw2 : i < w2.length := by rw [t2.wl]; exact hi
        refine ⟨_, rfl, _, rfl, b, _, _, _, rfl, rfl, SqL.of t2.iw, vn_atI iw2, _, _, rfl, rfl, _, rfl, ?_⟩
        rw [int_gt1]
        by_cases c1 : 1 < w2.getD i 0
        · rw [decide_eq_true c1, if_pos c1]
          exact iteT ⟨_, rfl, _, rfl, _, rfl, _, rfl, l, a, b, g, m, w2, i, rfl, t2, w8', hi, fun H3 k3 t3 => ⟨_, rfl, k2.trans k3, t3⟩⟩
        · rw [decide_eq_false c1, if_neg c1]
          exact iteF ⟨_, rfl, k2, t2⟩
    · rintro σ H1 ⟨c, rfl, k1, t1⟩
      rw [hwl] at t1
      exact q H1 k1 t1
end
end Gr
set_option Elab.async false
set_option linter.all false
set_option maxRecDepth 100000
set_option maxHeartbeats 4000000
namespace Gr
open PySem PySem.Spec PyProof.Rows L2
open Vbwsar (Ground)
/-! ## two lists of whole numbers compared -/
abbrev pl (l : List Nat) : List PyData := l.map fun (n : Nat) => PyData.int (n : Int)
theorem pl_all {K : PySem.W.Frag} {H : Hp} : ∀ l : List Nat, DpAll K H (vn l) (pl l)
  | [] => .nil
  | n :: l => .cons (.int _) (pl_all l)
theorem pl_is {K : PySem.W.Frag} {H : Hp} {a : Addr} {l : List Nat} (h : IL H a l) : Dp K H (.ref a) (.list (pl l)) := .lst (SqL.of h) (pl_all l)
theorem pl_can : ∀ l : List Nat, PyData.canLayAll0 (pl l) = true
  | [] => by simp [PyData.canLayAll0]
  | n :: l => by
    show PyData.canLayAll0 (PyData.int (n : Int) :: pl l) = true
    rw [PyData.canLayAll0, pl_can l]
    simp [PyData.canLay0]
theorem pl_depth : ∀ l : List Nat, PyData.depthAll (pl l) ≤ 1
  | [] => by simp [PyData.depthAll]
  | n :: l => by
    have h := pl_depth l
    show PyData.depthAll (PyData.int (n : Int) :: pl l) ≤ 1
    rw [PyData.depthAll]
    simp [PyData.depth]
    omega
theorem pl_shaped (l : List Nat) : SeqAt.shaped (.list (pl l)) = true := by
  unfold SeqAt.shaped
  have h := pl_depth l
  rw [PyData.canLay0, pl_can, PyData.depth, Bool.true_and, decide_eq_true_eq]
  omega
theorem pl_eqvAll : ∀ l m : List Nat, PyData.eqvAll (pl l) (pl m) = decide (l = m)
  | [], [] => by simp [PyData.eqvAll]
  | [], _ :: _ => by simp [PyData.eqvAll]
  | _ :: _, [] => by simp [PyData.eqvAll]
  | a :: l, b :: m => by
    show PyData.eqvAll (PyData.int (a : Int) :: pl l) (PyData.int (b : Int) :: pl m) = _
    rw [PyData.eqvAll, pl_eqvAll l m, PyData.eqv]
    by_cases h : a = b
    · subst h
      simp
    · have : ((a : Int) == (b : Int)) = false := by
        rw [beq_eq_false_iff_ne]
        omega
      rw [this]
      simp [h]
theorem pl_eqv (l m : List Nat) : PyData.eqv (.list (pl l)) (.list (pl m)) = decide (l = m) := by
  rw [PyData.eqv]
  exact pl_eqvAll l m
/-! ## behind_tick -/
theorem fallStep_most {g : Ground} {x : List Nat × List Nat} {k : Nat} (h : ∀ k, x.2.getD k 0 ≤ 8) : ∀ j, (fallStep g x k).2.getD j 0 ≤ 8 := by
  unfold fallStep
  split
  · exact h
  · split
    · exact set_most (set_most h (h _)) (by omega)
    · exact h
theorem falls_most {g : Ground} : ∀ (l : List Nat) (x : List Nat × List Nat), (∀ k, x.2.getD k 0 ≤ 8) → ∀ j, (l.foldl (fallStep g) x).2.getD j 0 ≤ 8
  | [], x, h => h
  | k :: l, x, h => falls_most l (fallStep g x k) (fallStep_most h)
abbrev sTick : Stmt := top 46
abbrev NTick : List Str := ["layout", "materials", "water"]
theorem scTick : FnScope NTick ["layout", "materials", "water"] (defScope sTick) := ⟨rfl, rfl, rfl, by decide +kernel, rfl, by decide +kernel, by decide +kernel⟩
def spTick (CL : Addr) : Sp := fun vs H Q _ => ∃ (l a b : Addr) (g : Ground) (m w : List Nat), vs = [.ref l, .ref a, .ref b] ∧ Lay CL H l g ∧ IL H a m ∧ IL H b w ∧ m.length = Vbwsar.size g ∧ w.length = Vbwsar.size g ∧ Vbwsar.size g ≤ 600 ∧ (∀ k, w.getD k 0 ≤ 8) ∧
  ∀ (H' : Hp) (p a2 b2 : Addr), Same H H' → H a2 = none → H b2 = none → H p = none → a2 ≠ b2 → H' p = some (.tup [.ref a2, .ref b2]) → IL H' a2 (tickM g m w).1 → IL H' b2 (tickM g m w).2 → Q (.ref p) H'
section
variable {P : Program} {w : World} {K : PySem.W.Frag} {mg : Str → Option Value} {base : Heap} {CL CG : Addr}
theorem ok_tick {f fD fA : Addr} {fd fdD fdA : FuncData} (F : Fun K "behind_tick" "behind_tick" sTick f fd) (T : Txt K mg CL CG)
    (FD : Fun K "let_fall" "let_fall" sFall fD fdD) (GD : FnOk P w K mg base CX0 4 fD fdD ["layout", "materials", "water"] (spTwo CL fallM)) (gD : mg "let_fall" = some (.ref fD)) (bD : Binds K fdD ["layout", "materials", "water"] [])
    (FA : Fun K "let_run" "let_run" sRun fA fdA) (GA : FnOk P w K mg base CX0 3 fA fdA ["layout", "materials", "water"] (spTwo CL fun g m w => (m, runM g m w))) (gA : mg "let_run" = some (.ref fA)) (bA : Binds K fdA ["layout", "materials", "water"] []) :
    FnOk P w K mg base CX0 5 f fd ["layout", "materials", "water"] (spTick CL) := by
  refine F.ok scTick (fun vs H Q E h => ?_) (fun cdv A outer s H vs Q E hr h => ?_)
  · obtain ⟨_, _, _, _, _, _, rfl, _⟩ := h
    rfl
  · have hr1 : Room 3 _ := hr.mono (by decide)
    refine ⟨_, pss_cons (ps_set (i := 1) scTick.nd rfl (Or.inl rfl) (pe_callTy call_list_of (by rfl) T.nlist PyProof.Rows.boot_list (pa_cons (pv 1) pa_nil)))
      (pss_cons (ps_set (i := 2) scTick.nd rfl (Or.inl rfl) (pe_callTy call_list_of (by rfl) T.nlist PyProof.Rows.boot_list (pa_cons (pv 2) pa_nil)))
      (pss_cons (ps_expr (pe_call GD hr rfl gD FD.kp bD .nil pass0 (pa_cons (pv 0) (pa_cons (pv 1) (pa_cons (pv 2) pa_nil)))))
      (pss_cons (ps_expr (pe_call GA hr1 rfl gA FA.kp bA .nil pass0 (pa_cons (pv 0) (pa_cons (pv 1) (pa_cons (pv 2) pa_nil)))))
      (pss_one (ps_ret (pe_tup (pa_cons (pv 1) (pa_cons (pv 2) pa_nil)))))))), ?_⟩
    obtain ⟨l, a, b, g, m, w, rfl, L, hm, hw, ml, wl, hsz, w8, q⟩ := h
    refine ⟨_, rfl, a, _, rfl, .inl (SqL.of hm), fun a2 na => ?_⟩
    have s1 : Same H (upd H a2 (.lst (vn m))) := same_new na
    refine ⟨_, rfl, b, _, rfl, .inl (SqL.of (s1 _ _ hw)), fun b2 nb => ?_⟩
    have s2 : Same (upd H a2 (.lst (vn m))) (upd (upd H a2 (.lst (vn m))) b2 (.lst (vn w))) := same_new nb
    have nb0 : H b2 = none := s1.free nb
    have ab : a2 ≠ b2 := fun e => by
      rw [e, upd_same] at nb
      cases nb
    have t : Two CL (upd (upd H a2 (.lst (vn m))) b2 (.lst (vn w))) l a2 b2 g m w :=
      ⟨⟨H, L, s1.trans s2, na, nb0⟩, ab, by unfold IL; rw [upd_ne ab, upd_same], by unfold IL; rw [upd_same], ml, wl⟩
    refine ⟨_, rfl, _, rfl, _, rfl, l, a2, b2, g, m, w, rfl, t, hsz, w8, fun H1 k1 t1 => ?_⟩
    refine ⟨_, rfl, _, rfl, _, rfl, l, a2, b2, g, _, _, rfl, t1, hsz, falls_most _ _ w8, fun H2 k2 t2 => ?_⟩
    refine ⟨_, rfl, _, rfl, (by show 2 ≤ sizeLine; decide), fun p np => ?_⟩
    have k3 : Keep H H2 a2 b2 := Keep.same (s1.trans s2) (k1.trans k2)
    have s3 : Same H H2 := k3.sub (Same.refl H) na nb0
    exact q _ p a2 b2 (same_of_new np s3) na nb0 (s3.free np) ab upd_same (by unfold IL; rw [upd_ne (ne_of_none t2.im np)]; exact t2.im) (by unfold IL; rw [upd_ne (ne_of_none t2.iw np)]; exact t2.iw)
end
end Gr
set_option Elab.async false
set_option linter.all false
set_option maxRecDepth 100000
set_option maxHeartbeats 4000000
namespace Gr
open PySem PySem.Spec PyProof.Rows L2
open Vbwsar (Ground)
/-! ## behind_ticks -/
theorem fallM_len {g : Ground} {m w : List Nat} : (fallM g m w).1.length = m.length ∧ (fallM g m w).2.length = w.length := falls_len _ _
theorem tickM_len {g : Ground} {m w : List Nat} (h : ∀ k, w.getD k 0 ≤ 8) : (tickM g m w).1.length = m.length ∧ (tickM g m w).2.length = w.length := by
  have a := fallM_len (g := g) (m := m) (w := w)
  have b := (runs_most (g := g) (m := (fallM g m w).1) (List.range (Vbwsar.size g)) (fallM g m w).2 (falls_most _ _ h)).2
  exact ⟨a.1, b.trans a.2⟩
theorem tickM_most {g : Ground} {m w : List Nat} (h : ∀ k, w.getD k 0 ≤ 8) : ∀ j, (tickM g m w).2.getD j 0 ≤ 8 :=
  (runs_most (g := g) (m := (fallM g m w).1) (List.range (Vbwsar.size g)) (fallM g m w).2 (falls_most _ _ h)).1
/-- what of a Ground's values is read here -/
structure GrF (CG : Addr) (H : Hp) (x l a b : Addr) : Prop where
  ins : ∃ dx fs, H x = some (.ins CG dx fs) ∧ fs.lookup ("layout" : Str) = some (.ref l) ∧ fs.lookup ("materials" : Str) = some (.ref a) ∧ fs.lookup ("water" : Str) = some (.ref b)
theorem GrF.same {CG : Addr} {H H' : Hp} {x l a b : Addr} (h : GrF CG H x l a b) (s : Same H H') : GrF CG H' x l a b := by
  obtain ⟨dx, fs, h1, h2, h3, h4⟩ := h.ins
  exact ⟨dx, fs, s _ _ h1, h2, h3, h4⟩
abbrev sTicks : Stmt := top 47
abbrev NTicks : List Str := ["ground", "most", "materials", "water", "made", "later_materials", "later_water", "quiet"]
theorem scTicks : FnScope NTicks ["ground", "most"] (defScope sTicks) := ⟨rfl, rfl, rfl, by decide +kernel, rfl, by decide +kernel, by decide +kernel⟩
def spTicks (CG CL : Addr) : Sp := fun vs H Q _ => ∃ (x l a b : Addr) (g : Ground) (m w : List Nat) (n : Nat), vs = [.ref x, .int (n : Int)] ∧ GrF CG H x l a b ∧ Lay CL H l g ∧ IL H a m ∧ IL H b w ∧ m.length = Vbwsar.size g ∧ w.length = Vbwsar.size g ∧ Vbwsar.size g ≤ 600 ∧ (∀ k, w.getD k 0 ≤ 8) ∧ n ≤ 1000 ∧
  ∀ (H' : Hp) (p a2 b2 : Addr), Same H H' → (a2 = a ∧ b2 = b) ∨ (H a2 = none ∧ H b2 = none ∧ a2 ≠ b2) → H' p = some (.tup [.ref a2, .ref b2, .int ((goM g n 0 m w).2.2.1 : Int), .bl (goM g n 0 m w).2.2.2]) → IL H' a2 (goM g n 0 m w).1 → IL H' b2 (goM g n 0 m w).2.1 → Q (.ref p) H'
/-- the whole number in a slot -/
def slotN (σ : L2.St) (i : Nat) : Nat := match σ[i]? with
  | some (some (V.int z)) => z.toNat
  | _ => 0
theorem int_eqNN (a b : Nat) : decide (V.int (a : Int) = V.int (b : Int)) = (a == b) := int_eqN a b
section
variable {P : Program} {w : World} {K : PySem.W.Frag} {mg : Str → Option Value} {base : Heap} {CL CG : Addr}
theorem ok_ticks {f fD : Addr} {fd fdD : FuncData} (F : Fun K "behind_ticks" "behind_ticks" sTicks f fd) (T : Txt K mg CL CG)
    (FD : Fun K "behind_tick" "behind_tick" sTick fD fdD) (GD : FnOk P w K mg base CX0 5 fD fdD ["layout", "materials", "water"] (spTick CL)) (gD : mg "behind_tick" = some (.ref fD)) (bD : Binds K fdD ["layout", "materials", "water"] []) :
    FnOk P w K mg base CX0 6 f fd ["ground", "most"] (spTicks CG CL) := by
  refine F.ok scTicks (fun vs H Q E h => ?_) (fun cdv A outer s H vs Q E hr h => ?_)
  · obtain ⟨_, _, _, _, _, _, _, _, rfl, _⟩ := h
    rfl
  · refine ⟨_, pss_cons (ps_set (i := 2) scTicks.nd rfl (Or.inl rfl) (pe_fld (pv 0) rfl))
      (pss_cons (ps_set (i := 3) scTicks.nd rfl (Or.inl rfl) (pe_fld (pv 0) rfl))
      (pss_cons (ps_set (i := 4) scTicks.nd rfl (Or.inl rfl) pe_int)
      (pss_one (ps_while PassesOwn.never (pt_val pe_bl)
        (pss_cons (ps_asg (pe_call GD hr rfl gD FD.kp bD .nil pass0 (pa_cons (pe_fld (pv 0) rfl) (pa_cons (pv 2) (pa_cons (pv 3) pa_nil)))) (pg_tup (by rfl) (pgs_cons (pg_name (i := 5) scTicks.nd rfl (Or.inl rfl)) (pgs_cons (pg_name (i := 6) scTicks.nd rfl (Or.inl rfl)) pgs_nil))))
        (pss_cons (ps_set (i := 7) scTicks.nd rfl (Or.inl rfl) (pe_and (pe_cmpR (op_eqD hr.units) (pv 5) (pv 2) (nomark _)) (pe_one (pe_cmpR (op_eqD hr.units) (pv 6) (pv 3) (nomark _)))))
        (pss_cons (ps_if (PW.pt (pw_or (pt_val (pv 7)) (pw_or1 (pt_cmpR op_eq (pv 4) (pv 1) (nomark _)))))
          (pss_one (ps_ret (pe_tup (pa_cons (pv 2) (pa_cons (pv 3) (pa_cons (pv 4) (pa_cons (pv 7) pa_nil))))))) pss_nil)
        (pss_cons (ps_set (i := 2) scTicks.nd rfl (Or.inl rfl) (pv 5))
        (pss_cons (ps_set (i := 3) scTicks.nd rfl (Or.inl rfl) (pv 6))
        (pss_one (ps_aug (i := 4) scTicks.nd rfl (Or.inl rfl) pe_int ip_addN))))))))))), ?_⟩
    obtain ⟨x, l, a, b, g, m, w, n, rfl, hx, L, hm, hw, ml, wl, hsz, w8, hn, q⟩ := h
    obtain ⟨dx, fs, h1, h2, h3, h4⟩ := hx.ins
    refine ⟨_, rfl, x, CG, dx, _, _, rfl, h1, T.clG, T.aMat, h3, ?_⟩
    refine ⟨_, rfl, x, CG, dx, _, _, rfl, h1, T.clG, T.aWat, h4, ?_⟩
    refine while_by (fun σ H' => ∃ k a2 b2 m2 w2 lm lw qu, k ≤ n ∧ σ = [some (.ref x), some (.int (n : Int)), some (.ref a2), some (.ref b2), some (.int (k : Int)), lm, lw, qu] ∧ Same H H' ∧ ((a2 = a ∧ b2 = b) ∨ (H a2 = none ∧ H b2 = none ∧ a2 ≠ b2)) ∧ IL H' a2 m2 ∧ IL H' b2 w2 ∧ m2.length = Vbwsar.size g ∧ w2.length = Vbwsar.size g ∧ (∀ j, w2.getD j 0 ≤ 8) ∧ goM g n 0 m w = goM g (n - k) k m2 w2)
      (fun σ _ => n - slotN σ 4) ⟨0, a, b, m, w, _, _, _, Nat.zero_le _, rfl, Same.refl H, .inl ⟨rfl, rfl⟩, hm, hw, ml, wl, w8, rfl⟩ ?_ ?_
    · rintro σ H1 ⟨k, a2, b2, m2, w2, lm, lw, qu, hk, rfl, s1, ab, im, iw, ml2, wl2, w82, eq⟩
      refine ⟨_, rfl, iteT ?_⟩
      refine ⟨_, rfl, x, CG, dx, _, _, rfl, s1 _ _ h1, T.clG, T.aLay, h2, _, rfl, _, rfl, l, a2, b2, g, m2, w2, rfl, L.same s1, im, iw, ml2, wl2, hsz, w82, fun H2 p a3 b3 s2 na3 nb3 np n3 ep im3 iw3 => ?_⟩
      refine ⟨p, _, rfl, SqT.of ep, rfl, _, _, rfl, _, _, rfl, rfl, ?_⟩
      refine ⟨_, rfl, _, rfl, _, _, pl_is im3, pl_is (s2 _ _ im), pl_shaped _, pl_shaped _, _, rfl, ?_⟩
      rw [pl_eqv]
      have ml3 := tickM_len (g := g) (m := m2) (w := w2) w82
      have w83 := tickM_most (g := g) (m := m2) (w := w2) w82
      have s3 := s1.trans s2
      have im2 := s2 _ _ im
      have iw2 := s2 _ _ iw
      have back : ∀ qu : Bool, (decide ((tickM g m2 w2).1 = m2) && decide ((tickM g m2 w2).2 = w2)) = qu → (qu = true ∨ k = n) → ∀ p2, H2 p2 = none → Q (.ref p2) (upd H2 p2 (.tup [.ref a2, .ref b2, .int (k : Int), .bl qu])) := fun qu e h p2 np2 => by
        have e2 : goM g (n - k) k m2 w2 = (m2, w2, k, qu) := by
          rcases h with h | h
          · subst h
            cases z : n - k with
            | zero =>
              unfold goM
              rw [e]
            | succ f =>
              unfold goM
              rw [e]
              rfl
          · subst h
            rw [Nat.sub_self]
            unfold goM
            rw [e]
        refine q _ p2 a2 b2 (same_of_new np2 s3) ?_ ?_ ?_ ?_
        · rcases ab with ⟨rfl, rfl⟩ | h
          · exact .inl ⟨rfl, rfl⟩
          · exact .inr h
        · rw [eq, e2, upd_same]
        · rw [eq, e2]
          unfold IL
          rw [upd_ne (ne_of_none im2 np2)]
          exact im2
        · rw [eq, e2]
          unfold IL
          rw [upd_ne (ne_of_none iw2 np2)]
          exact iw2
      -- the rest of the turn, by what quiet is
      cases c1 : decide ((tickM g m2 w2).1 = m2) with
      | false =>
        rw [c1, Bool.false_and] at back
        refine iteF ⟨_, rfl, _, rfl, iteF ⟨_, rfl, _, rfl, rfl, _, rfl, ?_⟩⟩
        rw [int_eqNN]
        cases c2 : (k == n) with
        | true =>
          have kn : k = n := by simpa using c2
          exact iteT ⟨_, rfl, _, rfl, _, rfl, _, rfl, (by show 4 ≤ sizeLine; decide), fun p2 np2 => back _ rfl (.inr kn) p2 np2⟩
        | false =>
          have kn : ¬ k = n := by simpa using c2
          refine iteF ⟨_, rfl, _, rfl, _, rfl, k, 1, rfl, rfl, ⟨k + 1, a3, b3, _, _, _, _, _, by omega, rfl, s3, .inr ⟨s1.free na3, s1.free nb3, n3⟩, im3, iw3, ml3.1.trans ml2, ml3.2.trans wl2, w83, ?_⟩, ?_⟩
          · rw [eq]
            have : n - k = (n - (k + 1)) + 1 := by omega
            rw [this]
            show (if _ then _ else _) = _
            rw [c1, Bool.false_and, if_neg (by simp)]
          · show n - (k + 1) < n - k
            omega
      | true =>
        refine iteT ⟨_, rfl, _, rfl, _, _, pl_is iw3, pl_is iw2, pl_shaped _, pl_shaped _, ?_⟩
        rw [pl_eqv]
        cases c3 : decide ((tickM g m2 w2).2 = w2) with
        | true =>
          rw [c1, c3, Bool.and_true] at back
          exact ⟨_, rfl, _, rfl, iteT (iteT ⟨_, rfl, _, rfl, _, rfl, _, rfl, (by show 4 ≤ sizeLine; decide), fun p2 np2 => back _ rfl (.inl rfl) p2 np2⟩)⟩
        | false =>
          rw [c1, c3, Bool.and_false] at back
          refine ⟨_, rfl, _, rfl, iteF ⟨_, rfl, _, rfl, rfl, _, rfl, ?_⟩⟩
          rw [int_eqNN]
          cases c2 : (k == n) with
          | true =>
            have kn : k = n := by simpa using c2
            exact iteT ⟨_, rfl, _, rfl, _, rfl, _, rfl, (by show 4 ≤ sizeLine; decide), fun p2 np2 => back _ rfl (.inr kn) p2 np2⟩
          | false =>
            have kn : ¬ k = n := by simpa using c2
            refine iteF ⟨_, rfl, _, rfl, _, rfl, k, 1, rfl, rfl, ⟨k + 1, a3, b3, _, _, _, _, _, by omega, rfl, s3, .inr ⟨s1.free na3, s1.free nb3, n3⟩, im3, iw3, ml3.1.trans ml2, ml3.2.trans wl2, w83, ?_⟩, ?_⟩
            · rw [eq]
              have : n - k = (n - (k + 1)) + 1 := by omega
              rw [this]
              show (if _ then _ else _) = _
              rw [c1, c3, Bool.and_false, if_neg (by simp)]
            · show n - (k + 1) < n - k
              omega
    · intro σ H Q Q' hq ⟨c, e, h⟩
      exact ⟨c, e, hq _ _ h⟩
end
end Gr
set_option Elab.async false
set_option linter.all false
set_option maxRecDepth 100000
set_option maxHeartbeats 4000000
namespace Gr
open PySem PySem.Spec PyProof.Rows L2
open Vbwsar (Ground)
open GT (lightOf lightOf_is IsLight)
theorem path_fuel {g : Ground} {L : Nat → Nat} (h : IsLight g L) {n k : Nat} (hn : 15 ≤ L k + n) : ∀ d, pathM g L (n + d) k = pathM g L n k
  | 0 => rfl
  | d + 1 => by
    rw [← Nat.add_assoc, path_more h (n + d) k (by omega)]
    exact path_fuel h hn d
def trailM (g : Ground) (k : Nat) : List Nat := if lightOf g k = 0 then [] else pathM g (lightOf g) 15 k
theorem filter_first {A : Type} {p : A → Bool} : ∀ l : List A, (l.filter p)[0]? = l.find? p
  | [] => rfl
  | a :: l => by
    rw [List.filter_cons, List.find?_cons]
    cases p a with
    | true => rfl
    | false => exact filter_first l
/-- behind some steps: the way so far, the cell now -/
structure TInv (g : Ground) (k0 : Nat) (pre : List Nat) (k : Nat) : Prop where
  lt : k < Vbwsar.size g
  lit : lightOf g k ≠ 0
  way : pre ++ pathM g (lightOf g) (15 - lightOf g k) k = pathM g (lightOf g) 15 k0
  len : pre.length + lightOf g k0 = lightOf g k
theorem TInv.start {g : Ground} {k : Nat} (h : k < Vbwsar.size g) (l : lightOf g k ≠ 0) : TInv g k [] k := by
  have mo := (lightOf_is g).most k
  refine ⟨h, l, ?_, by simp⟩
  rw [List.nil_append]
  have := path_fuel (lightOf_is g) (n := 15 - lightOf g k) (k := k) (by omega) (lightOf g k)
  rw [show 15 - lightOf g k + lightOf g k = 15 by omega] at this
  exact this.symm
theorem TInv.done {g : Ground} {k0 k : Nat} {pre : List Nat} (h : TInv g k0 pre k) (e : Vbwsar.source g k = lightOf g k) : pre ++ [k] = pathM g (lightOf g) 15 k0 := by
  rw [← h.way]
  congr 1
  have n : nextM g (lightOf g) k = none := by
    unfold nextM
    rw [if_pos e]
  have z : ∀ f, pathM g (lightOf g) f k = [k] := fun f => by
    cases f with
    | zero => rfl
    | succ f =>
      unfold pathM
      rw [n]
  exact (z _).symm
theorem TInv.step {g : Ground} {k0 k : Nat} {pre : List Nat} (h : TInv g k0 pre k) (e : ¬ Vbwsar.source g k = lightOf g k) : ∃ j, (Vbwsar.around g k).find? (fun j => lightOf g j == lightOf g k + 1) = some j ∧ TInv g k0 (pre ++ [k]) j ∧ lightOf g j = lightOf g k + 1 := by
  have s := lightOf_is g
  cases n : nextM g (lightOf g) k with
  | none => exact absurd (next_some s h.lit n) e
  | some j =>
    have a := next_lit n
    have f : (Vbwsar.around g k).find? (fun j => lightOf g j == lightOf g k + 1) = some j := by
      unfold nextM at n
      rw [if_neg e] at n
      exact n
    have mo := s.most j
    refine ⟨j, f, ⟨GT.around_lt h.lt a.2, by omega, ?_, ?_⟩, a.1⟩
    · rw [← h.way, List.append_assoc]
      congr 1
      rw [show 15 - lightOf g k = (15 - lightOf g j) + 1 by omega]
      conv => rhs; unfold pathM
      rw [n]
      rfl
    · rw [List.length_append, a.1, ← h.len]
      show pre.length + 1 + _ = _
      omega
abbrev sTrail : Stmt := top 23
abbrev NTrail : List Str := ["layout", "materials", "cell", "own", "light", "trail", "brighter", "near"]
theorem scTrail : FnScope NTrail ["layout", "materials", "cell"] (defScope sTrail) := ⟨rfl, rfl, rfl, by decide +kernel, rfl, by decide +kernel, by decide +kernel⟩
def spTrail (CL : Addr) : Sp := fun vs H Q _ => ∃ (l a : Addr) (g : Ground) (m : List Nat) (k : Nat), vs = [.ref l, .ref a, .int (k : Int)] ∧ Lay CL H l g ∧ IL H a m ∧ m.length = Vbwsar.size g ∧ Vbwsar.size g ≤ 600 ∧ k < Vbwsar.size g ∧ (∀ k, Vbwsar.matAt g k = m.getD k 0) ∧
  ∀ H' p, Same H H' → H p = none → IL H' p (trailM g k) → Q (.ref p) H'
section
variable {P : Program} {w : World} {K : PySem.W.Frag} {mg : Str → Option Value} {base : Heap} {CL CG : Addr}
theorem ok_trail {f fO fW fC fS fL : Addr} {fd fdO fdW fdC fdS fdL : FuncData} (F : Fun K "trail_from" "trail_from" sTrail f fd) (T : Txt K mg CL CG) (DC : DefN K mg "is_clear" sClear NClear fC fdC)
    (DO : DefN K mg "open_cells" sOpen ["layout", "materials"] fO fdO) (DW : DefN K mg "own_light" sOwn NOwn fW fdW) (DS : DefN K mg "own_lights" sOwns ["layout", "materials"] fS fdS) (DL : DefN K mg "lights" sLights ["layout", "materials"] fL fdL) :
    FnOk P w K mg base CX0 5 f fd ["layout", "materials", "cell"] (spTrail CL) := by
  have GS : FnOk P w K mg base CX0 3 fS fdS ["layout", "materials"] (spList CL ownsM) := ok_owns DS.F T DC DO DW
  have GL : FnOk P w K mg base CX0 4 fL fdL ["layout", "materials"] (spList CL lightsM) := ok_lights DL.F T DC DO DW DS
  refine F.ok scTrail (fun vs H Q E h => ?_) (fun cdv A outer s H vs Q E hr h => ?_)
  · obtain ⟨_, _, _, _, _, rfl, _⟩ := h
    rfl
  · have hr3 : Room 3 _ := hr.mono (by decide)
    refine ⟨_, pss_cons (ps_set (i := 3) scTrail.nd rfl (Or.inl rfl) (pe_call GS hr3 rfl DS.g DS.F.kp DS.b .nil pass0 (pa_cons (pv 0) (pa_cons (pv 1) pa_nil))))
      (pss_cons (ps_set (i := 4) scTrail.nd rfl (Or.inr rfl) (pe_call GL hr rfl DL.g DL.F.kp DL.b .nil pass0 (pa_cons (pv 0) (pa_cons (pv 1) pa_nil))))
      (pss_cons (ps_if (pt_cmpR op_eq (pe_ix ix_list (pv 4) (pv 2) (fun _ _ => rfl)) pe_int (nomark _)) (pss_one (ps_ret (pe_lst pa_nil))) pss_nil)
      (pss_cons (ps_set (i := 5) scTrail.nd rfl (Or.inl rfl) (pe_lst (pa_cons (pv 2) pa_nil)))
      (pss_cons (ps_while PassesOwn.never (pt_cmpR op_ne (pe_ix ix_list (pv 4) (pv 2) (fun _ _ => rfl)) (pe_ix ix_list (pv 3) (pv 2) (fun _ _ => rfl)) (nomark _))
        (pss_cons (ps_setLc (i := 6) (own := [("near", 7)]) (g := gName 7) rfl scTrail.nd rfl rfl (sw_true rfl rfl rfl (by decide +kernel))
          (pi_list (pe_ix ix_list (pe_fld (pv 0) rfl) (pv 2) (fun _ _ => rfl))) (blkOk_by (N := NTrail) (sc := defScope sTrail) (by decide +kernel))
          (fun _ _ _ _ _ => pg_name (i := 7) scTrail.nd rfl (Or.inl rfl))
          (fun _ _ _ _ _ => pts_one (pt_cmpR op_eq (pe_ix (r := rIxL K) ix_list (pv 4) (pv 7) (fun _ _ => rfl)) (pe_op op_add (pe_ix (r := rIxL K) ix_list (pv 4) (pv 2) (fun _ _ => rfl)) pe_int) (nomark _)))
          (fun _ _ _ _ _ => pv 7))
        (pss_cons (ps_set (i := 2) scTrail.nd rfl (Or.inr rfl) (pe_ix ix_list (pv 6) pe_int (fun _ _ => rfl)))
        (pss_one (ps_expr (pe_bm PySem.F.plainAttrs_list PySem.F.slot_list_append PySem.F.type_list_append mt_append (pv 5) (pa_cons (pv 2) pa_nil)))))))
      (pss_one (ps_ret (pv 5))))))), ?_⟩
    obtain ⟨l, a, g, m, k0, rfl, L, hm, hl, sz, k0l, em, q⟩ := h
    have small : ∀ n, n ≤ 600 → n < sizeLine := fun n h => small1000 (by omega)
    refine ⟨_, rfl, _, rfl, l, a, g, m, rfl, L, hm, hl, sz, fun H1 po s1 hpo e1 => ?_⟩
    refine ⟨_, rfl, _, rfl, l, a, g, m, rfl, L.same s1, s1 _ _ hm, hl, sz, fun H2 pl s2 hpl e2 => ?_⟩
    have ol : (ownsM g m).length = Vbwsar.size g := owns_len
    have ll : (lightsM g m).length = Vbwsar.size g := lights_len
    have lis : ∀ k, k < Vbwsar.size g → (lightsM g m).getD k 0 = lightOf g k := fun k h => lights_is em h
    have ois : ∀ k, k < Vbwsar.size g → (ownsM g m).getD k 0 = Vbwsar.source g k := fun k h => own_is em h
    generalize ownsM g m = ow at *
    generalize lightsM g m = lt at *
    have e1 := s2 _ _ e1
    have s12 := s1.trans s2
    refine ⟨_, rfl, _, rfl, pl, _, _, _, rfl, rfl, SqL.of e2, vn_atI (by rw [ll]; exact k0l), rfl, _, rfl, ?_⟩
    rw [int_eq0, lis k0 k0l]
    unfold trailM at q
    cases c0 : (lightOf g k0 == 0) with
    | true =>
      rw [if_pos (by simpa using c0)] at q
      exact iteT ⟨(by show 0 ≤ sizeLine; decide), fun p hp => q _ p (same_of_new hp s12) (s12.free hp) upd_same⟩
    | false =>
      have c0 : ¬ lightOf g k0 = 0 := by simpa using c0
      rw [if_neg c0] at q
      refine iteF ⟨_, rfl, (by show 1 ≤ sizeLine; decide), fun p hp => ?_⟩
      have hp0 : H p = none := s12.free hp
      generalize g3 : upd H2 p _ = H3
      obtain ⟨s3, e3⟩ := newS hp g3
      have lp : pl ≠ p := ne_of_none e2 hp
      have op : po ≠ p := ne_of_none e1 hp
      refine while_by (fun σ H' => ∃ (k : Nat) (pre : List Nat) (c6 c7 : Option V), σ = [some (.ref l), some (.ref a), some (.int (k : Int)), some (.ref po), some (.ref pl), some (.ref p), c6, c7] ∧ Same H H' ∧ IL H' po ow ∧ IL H' pl lt ∧ IL H' p (pre ++ [k]) ∧ TInv g k0 pre k)
        (fun σ _ => 15 - lightOf g (slotN σ 2)) ⟨k0, [], _, _, rfl, s12.trans s3, s3 _ _ e1, s3 _ _ e2, e3, TInv.start k0l c0⟩ ?_ ?_
      · rintro σ H4 ⟨k, pre, c6, c7, rfl, s4, o4, l4, p4, I⟩
        have kl := I.lt
        have mo := (lightOf_is g).most k
        refine ⟨_, rfl, _, rfl, pl, _, _, _, rfl, rfl, SqL.of l4, vn_atI (by rw [ll]; exact kl), _, rfl, _, rfl, po, _, _, _, rfl, rfl, SqL.of o4, vn_atI (by rw [ol]; exact kl), rfl, _, rfl, ?_⟩
        rw [int_eqN, lis k kl, ois k kl]
        cases c : (lightOf g k == Vbwsar.source g k) with
        | true =>
          have c : lightOf g k = Vbwsar.source g k := by simpa using c
          have := I.done c.symm
          rw [this] at p4
          exact iteF ⟨_, rfl, q H4 p s4 hp0 p4⟩
        | false =>
          have c : ¬ lightOf g k = Vbwsar.source g k := by simpa using c
          obtain ⟨j, fj, I', lj⟩ := I.step (fun e => c e.symm)
          obtain ⟨d, L4⟩ := L.same s4
          refine iteT ⟨_, rfl, l, CL, d.dx, _, _, rfl, L4.ins, T.clL, T.aAbout, L4.fAbout, _, rfl, d.ab, _, _, _, rfl, rfl, SqL.of L4.about, L4.aboutAt kl, d.al.getD k 0, rfl, ⟨_, SqL.of (L4.aat k kl)⟩, fun D hD => ?_⟩
          refine lc_pure (fun x => x) (fun x => lt.getD (natV x) 0 == lightOf g k + 1) hD (small1000 (by rw [vn_len]; exact Nat.le_trans around_len (by decide))) (SqL.of (L4.aat k kl)) (fun x => rfl) (fun x hx H5 s5 Q h => ?_) (fun x hx _ H2 s2 Q h => ⟨_, rfl, h H2 (Same.refl H2)⟩) (fun H5 s5 e5 => ?_)
          · obtain ⟨n, hn, rfl⟩ := mem_vn hx
            have nl : n < Vbwsar.size g := GT.around_lt kl hn
            refine ⟨_, rfl, _, rfl, pl, _, _, _, rfl, rfl, SqL.of (s5 _ _ l4), vn_atI (by rw [ll]; exact nl), _, rfl, _, rfl, pl, _, _, _, rfl, rfl, SqL.of (s5 _ _ l4), vn_atI (by rw [ll]; exact kl), _, _, rfl, rfl, rfl, _, rfl, ?_⟩
            have e := int_eqN (lt.getD n 0) (lt.getD k 0 + 1)
            rw [show decide (V.int ((lt.getD n 0 : Nat) : Int) = (fun i j : Int => V.int (i + j)) ((lt.getD k 0 : Nat) : Int) 1) = (lt.getD n 0 == lt.getD k 0 + 1) from e, lis k kl]
            exact h H5 (Same.refl H5)
          · have fv := filter_vn (Vbwsar.around g k) (fun n => lt.getD n 0 == lightOf g k + 1)
            have fc : (Vbwsar.around g k).filter (fun n => lt.getD n 0 == lightOf g k + 1) = (Vbwsar.around g k).filter (fun n => lightOf g n == lightOf g k + 1) := by
              refine List.filter_congr fun n hn => ?_
              rw [lis n (GT.around_lt kl hn)]
            have e5 : IL H5 D ((Vbwsar.around g k).filter (fun n => lightOf g n == lightOf g k + 1)) := by
              rw [← fc]
              exact e5.trans (congrArg (fun z => some (HO.lst z)) fv)
            have f0 : ((Vbwsar.around g k).filter (fun n => lightOf g n == lightOf g k + 1))[0]? = some j := by
              rw [filter_first]
              exact fj
            generalize (Vbwsar.around g k).filter (fun n => lightOf g n == lightOf g k + 1) = br at e5 f0
            refine ⟨_, rfl, D, _, 0, _, rfl, rfl, SqL.of e5, at_of (j := 0) rfl (by rw [List.getElem?_map, f0]; rfl), ?_⟩
            have p5 := s5 _ _ p4
            have prel : pre.length ≤ 15 := by
              have := I.len
              omega
            refine ⟨_, rfl, .inl ⟨rfl, _, SqL.of p5⟩, _, rfl, p, _, _, rfl, rfl, p5, ?_, ?_⟩
            · rw [vn_len, List.length_append]
              exact small _ (by show pre.length + 1 ≤ 600; omega)
            · have s45 := s4.trans s5
              refine ⟨⟨j, pre ++ [k], _, _, rfl, same_upd s45 hp0, ?_, ?_, ?_, I'⟩, ?_⟩
              · unfold IL
                rw [upd_ne op]
                exact s5 _ _ o4
              · unfold IL
                rw [upd_ne lp]
                exact s5 _ _ l4
              · unfold IL
                rw [upd_same]
                exact congrArg (fun z => some (HO.lst z)) vn_snoc
              · have mj := (lightOf_is g).most j
                show 15 - lightOf g j < 15 - lightOf g k
                omega
      · intro σ H Q Q' hq ⟨v1, h1, v2, h2, p, xs, i, v, a1, a2, a3, a4, v3, h3, v4, h4, p', xs', i', v', b1, b2, b3, b4, e, k, e', r⟩
        exact ⟨v1, h1, v2, h2, p, xs, i, v, a1, a2, a3, a4, v3, h3, v4, h4, p', xs', i', v', b1, b2, b3, b4, e, k, e', hq _ _ r⟩
end
end Gr
set_option Elab.async false
set_option linter.all false
set_option maxRecDepth 100000
set_option maxHeartbeats 4000000
namespace Gr
open PySem PySem.Spec PyProof.Rows L2
open Vbwsar (Ground)
/-! # The calls -/
theorem Lay.dim {CL : Addr} {H : Hp} {l : Addr} {g s : Ground} (h : Lay CL H l g) (d : Dim g s) : Lay CL H l s := by
  obtain ⟨D, L⟩ := h
  refine ⟨D, L.ins, L.fSides, ?_, L.fBelow, L.fBeside, L.fAbout, L.nCell, L.nPlace, ?_, ?_, L.beside, L.about, L.blen.trans d.size.symm, L.alen.trans d.size.symm, fun k hk => ?_, fun k hk => ?_⟩
  · rw [d.x, d.y]
    exact L.fSize
  · rw [d.x, d.y, d.z]
    exact L.sides
  · rw [d.size, show (fun k => optV (Vbwsar.below s k)) = fun k => optV (Vbwsar.below g k) from funext fun k => by rw [d.below]]
    exact L.below
  · rw [d.beside]
    exact L.bat k (by rw [← d.size]; exact hk)
  · rw [d.around]
    exact L.aat k (by rw [← d.size]; exact hk)
theorem GS.dim {CL CG x dx l a b : Addr} {HF H HL : Hp} {g s : Ground} {m w : List Nat} {t : Nat} (h : GS CL CG HF H x g m w t dx l a b HL) (d : Dim g s) : GS CL CG HF H x s m w t dx l a b HL :=
  ⟨h.ins, h.lay.dim d, h.subL, h.subF, h.dis, h.im, h.iw, h.ab, h.fa, h.fb, h.fx, h.la, h.lb, h.lx, h.ml.trans d.size.symm, h.wl.trans d.size.symm, by rw [d.size]; exact h.sz, h.w8, h.m5, by rw [d.x, d.y, d.z]; exact h.most⟩
/-- a ground without cells, or with some on each side -/
def Full (s : Ground) : Prop := (s.sx = 0 ∧ s.sy = 0 ∧ s.sz = 0) ∨ (0 < s.sx ∧ 0 < s.sy ∧ 0 < s.sz)
theorem Full.dim {g s : Ground} (h : Full g) (d : Dim g s) : Full s := by
  unfold Full
  rw [d.x, d.y, d.z]
  exact h
/-- at x stands the specification's ground -/
def GX (CL CG : Addr) (HF H : Hp) (x : Addr) (s : Ground) : Prop := ∃ m w, GE CL CG HF H x s m w s.ticks ∧ Sim s s m w ∧ Full s
theorem GX.of {CL CG : Addr} {HF H : Hp} {x : Addr} {g s : Ground} {m w : List Nat} {t : Nat} (h : GE CL CG HF H x g m w t) (S : Sim g s m w) (e : s.ticks = t) (f : Full g) : GX CL CG HF H x s := by
  obtain ⟨dx, l, a, b, HL, G⟩ := h
  refine ⟨m, w, ⟨dx, l, a, b, HL, ?_⟩, S.self, f.dim S.dim⟩
  rw [e]
  exact G.dim S.dim
theorem GX.same {CL CG : Addr} {HF H H' : Hp} {x : Addr} {s : Ground} (h : GX CL CG HF H x s) (q : Same H H') : GX CL CG HF H' x s := by
  obtain ⟨m, w, ⟨dx, l, a, b, HL, G⟩, S, f⟩ := h
  exact ⟨m, w, ⟨dx, l, a, b, HL, G.same q⟩, S, f⟩
theorem GX.frame {CL CG : Addr} {HF H : Hp} {x : Addr} {s : Ground} (h : GX CL CG HF H x s) : Same HF H := by
  obtain ⟨m, w, ⟨dx, l, a, b, HL, G⟩, S, f⟩ := h
  exact G.subF
/-- what a call's def promises: the specification's own step -/
def spAns (CL CG : Addr) (c : List Int → List (List Int)) (ok : List Int → Prop) : Sp := fun vs H Q _ => ∃ (HF : Hp) (x r : Addr) (s : Ground) (ns : List Int), vs = [.ref x, .ref r] ∧ GX CL CG HF H x s ∧ HF r = some (.lst (vi ns)) ∧ ok ns ∧
  ∀ H' p, GX CL CG HF H' x (VbwsarNeutral.step s (c ns)).1 → HF p = none → H' p = some (.lst (vi (VbwsarNeutral.step s (c ns)).2)) → (VbwsarNeutral.step s (c ns)).2.length ≤ 3000 → Q (.ref p) H'
theorem vi_ints (l : List Nat) : vi (Vbwsar.ints l) = vn l := by
  unfold Vbwsar.ints
  show (l.map _).map _ = _
  rw [List.map_map]
  rfl
/-- a cell's number by the specification -/
theorem onCell_is {s : Ground} (x y z : Int) : (cellV s.sx s.sy s.sz x y z = .non ∧ ∀ f, Vbwsar.onCell s x y z f = (s, [-1])) ∨ ∃ k, k < Vbwsar.size s ∧ cellV s.sx s.sy s.sz x y z = .int (k : Int) ∧ ∀ f, Vbwsar.onCell s x y z f = f k := by
  have ins : ∀ (v : Int) (S : Nat), Vbwsar.inside v 0 ((S : Int) - 1) = decide (0 ≤ v ∧ v < S) := fun v S => by
    unfold Vbwsar.inside
    rw [Bool.eq_iff_iff, Bool.and_eq_true, decide_eq_true_iff, decide_eq_true_iff, decide_eq_true_iff]
    omega
  by_cases h : (0 ≤ x ∧ x < s.sx) ∧ (0 ≤ y ∧ y < s.sy) ∧ (0 ≤ z ∧ z < s.sz)
  · refine .inr ⟨Vbwsar.keyOf s ⟨x.toNat, y.toNat, z.toNat⟩, GT.key_lt (by omega) (by omega) (by omega), ?_, fun f => ?_⟩
    · have := cellV_is (X := s.sx) (Y := s.sy) (Z := s.sz) (c := (x, y, z))
      unfold cellO at this
      rw [if_pos h] at this
      exact this
    · unfold Vbwsar.onCell
      rw [ins, ins, ins, decide_eq_true h.1, decide_eq_true h.2.1, decide_eq_true h.2.2, if_neg (by simp)]
  · refine .inl ⟨if_neg h, fun f => ?_⟩
    unfold Vbwsar.onCell
    rw [ins, ins, ins, if_pos]
    · rfl
    · rw [decide_eq_false_iff_not, decide_eq_false_iff_not, decide_eq_false_iff_not]
      by_cases a : 0 ≤ x ∧ x < s.sx
      · by_cases b : 0 ≤ y ∧ y < s.sy
        · exact .inr (.inr fun c => h ⟨a, b, c⟩)
        · exact .inr (.inl b)
      · exact .inl a
theorem inside_iff {v lo hi : Int} : Vbwsar.inside v lo hi = decide (lo ≤ v ∧ v ≤ hi) := by
  unfold Vbwsar.inside
  rw [Bool.eq_iff_iff, Bool.and_eq_true, decide_eq_true_iff, decide_eq_true_iff, decide_eq_true_iff]
theorem vi4 {ns : List Int} (h : ns.length = 4) : ∃ a b c d, ns = [a, b, c, d] := by
  match ns, h with
  | [a, b, c, d], _ => exact ⟨a, b, c, d, rfl⟩
theorem vi3 {ns : List Int} (h : ns.length = 3) : ∃ a b c, ns = [a, b, c] := by
  match ns, h with
  | [a, b, c], _ => exact ⟨a, b, c, rfl⟩
theorem vi2 {ns : List Int} (h : ns.length = 2) : ∃ a b, ns = [a, b] := by
  match ns, h with
  | [a, b], _ => exact ⟨a, b, rfl⟩
theorem vi1 {ns : List Int} (h : ns.length = 1) : ∃ a, ns = [a] := by
  match ns, h with
  | [a], _ => exact ⟨a, rfl⟩
theorem vi0 {ns : List Int} (h : ns.length = 0) : ns = [] := List.length_eq_zero_iff.mp h
/-- the defs of Ground that the calls use -/
structure GrT (K : PySem.W.Frag) (CG : Addr) (fB fP fR fO : Addr) (fdB fdP fdR fdO : FuncData) : Prop where
  FB : Fun K "begin" "Ground.begin" sBegin fB fdB
  mB : Meth K CG "begin" fB
  bB : Binds K fdB ["self", "sides", "materials", "water"] []
  FP : Fun K "place" "Ground.place" sPlace fP fdP
  mP : Meth K CG "place" fP
  bP : Binds K fdP ["self", "cell", "material"] []
  FR : Fun K "room" "Ground.room" sGRoom fR fdR
  mR : Meth K CG "room" fR
  bR : Binds K fdR ["self", "cell"] []
  FO : Fun K "pass_on" "Ground.pass_on" sPass fO fdO
  mO : Meth K CG "pass_on" fO
  bO : Binds K fdO ["self", "materials", "water", "ticks"] []
/-! ## print -/
abbrev sPrint : Stmt := top 54
abbrev NPrint : List Str := ["ground", "numbers"]
theorem scPrint : FnScope NPrint ["ground", "numbers"] (defScope sPrint) := ⟨rfl, rfl, rfl, by decide +kernel, rfl, by decide +kernel, by decide +kernel⟩
section
variable {P : Program} {w : World} {K : PySem.W.Frag} {mg : Str → Option Value} {base : Heap} {CL CG aS : Addr}
theorem ok_print {f fT fS : Addr} {fd fdT fdS : FuncData} (F : Fun K "answer_print" "answer_print" sPrint f fd) (T : Txt K mg CL CG) (TS : TxtS K mg aS) (DS : DefN K mg "sign_of" sSign ["material", "water"] fS fdS) (DT : DefN K mg "text_of" sText ["sides", "materials", "water"] fT fdT) :
    FnOk P w K mg base CX0 3 f fd ["ground", "numbers"] (spAns CL CG (fun ns => [2 :: ns]) fun ns => ns.length = 0) := by
  have GT' : FnOk P w K mg base CX0 2 fT fdT ["sides", "materials", "water"] spText := ok_text DT.F T TS DS
  refine F.ok scPrint (fun vs H Q E h => ?_) (fun cdv A outer s H vs Q E hr h => ?_)
  · obtain ⟨_, _, _, _, _, rfl, _⟩ := h
    rfl
  · refine ⟨_, pss_one (ps_ret (pe_op op_cat (pe_lst (pa_cons pe_int pa_nil)) (pe_call GT' hr rfl DT.g DT.F.kp DT.b .nil pass0 (pa_cons (pe_fld (pe_fld (pv 0) rfl) rfl) (pa_cons (pe_fld (pv 0) rfl) (pa_cons (pe_fld (pv 0) rfl) pa_nil)))))), ?_⟩
    obtain ⟨HF, x, r, s, ns, rfl, X, hr', hn, q⟩ := h
    obtain rfl := vi0 hn
    obtain ⟨m, w, ⟨dx, l, a, b, HL, G⟩, S, f⟩ := id X
    refine ⟨(by show 1 ≤ sizeLine; decide), fun u hu => ?_⟩
    generalize g1 : upd H u _ = H1
    obtain ⟨s1, e1⟩ := newS hu g1
    have G1 := G.same s1
    obtain ⟨d, L⟩ := G1.layH
    refine ⟨_, rfl, x, CG, dx, _, _, rfl, G1.ins, T.clG, T.aLay, gF_lay, l, CL, d.dx, _, _, rfl, L.ins, T.clL, T.aSides, L.fSides, _, rfl, x, CG, dx, _, _, rfl, G1.ins, T.clG, T.aMat, gF_mat, _, rfl, x, CG, dx, _, _, rfl, G1.ins, T.clG, T.aWat, gF_wat, ?_⟩
    refine ⟨d.sa, a, b, s, m, w, rfl, L.sides, G1.im, G1.iw, G1.ml, G1.wl, G1.m5, G1.most, fun H2 p s2 np e2 => ?_⟩
    have tm : (textM s m w).length ≤ 2500 := by
      rw [textM_len]
      have := text_most G1.most (Nat.le_refl s.sz) (Nat.zero_le s.sy) (Nat.zero_le s.sx)
      omega
    refine ⟨u, p, _, _, rfl, rfl, s2 _ _ e1, e2, ?_, fun v hv => ?_⟩
    · rw [vn_len]
      have := small5000 (n := (textM s m w).length + 1) (by omega)
      show 1 + (textM s m w).length ≤ sizeLine
      omega
    have st : VbwsarNeutral.step s [[2]] = (s, 0 :: Vbwsar.ints (Vbwsar.groundText s)) := rfl
    rw [text_is S.toHolds] at st
    refine q _ v ?_ ((X.same (s1.trans s2)).frame.free hv) ?_ ?_
    · rw [st]
      exact X.same (s1.trans (s2.trans (same_new hv)))
    · rw [st, upd_same]
      show _ = some (HO.lst (V.int 0 :: vi (Vbwsar.ints (textM s m w))))
      rw [vi_ints]
      rfl
    · rw [st]
      show (Vbwsar.ints (textM s m w)).length + 1 ≤ 3000
      unfold Vbwsar.ints
      rw [List.length_map]
      omega
end
end Gr
set_option Elab.async false
set_option linter.all false
set_option maxRecDepth 100000
set_option maxHeartbeats 4000000
namespace Gr
open PySem PySem.Spec PyProof.Rows L2
open Vbwsar (Ground)
/-- the answer is a new list -/
theorem fin {CL CG : Addr} {HF H : Hp} {x p : Addr} {Q : VK} {st : Ground × List Int} {t : Ground} {l : List Int}
    (q : ∀ H' p, GX CL CG HF H' x st.1 → HF p = none → H' p = some (.lst (vi st.2)) → st.2.length ≤ 3000 → Q (.ref p) H') (e : st = (t, l)) (G : GX CL CG HF H x t) (hp : H p = none) (n : l.length ≤ 3000) : Q (.ref p) (upd H p (.lst (vi l))) := by
  subst e
  exact q _ p (G.same (same_new hp)) (G.frame.free hp) upd_same n
theorem LayOk.sidesAt {CL : Addr} {H : Hp} {l : Addr} {s : Ground} {d : LayD} (L : LayOk CL H l s d) (h : s.sx ≤ 12 ∧ s.sy ≤ 12 ∧ s.sz ≤ 12) : SidesAt CL H l s.sx s.sy s.sz :=
  ⟨d.dx, _, d.sa, L.ins, L.fSides, L.sides, by omega, by omega, by omega⟩
/-! ## place -/
abbrev sAPlace : Stmt := top 55
abbrev NAPlace : List Str := ["ground", "numbers", "x", "y", "z", "material", "cell"]
theorem scAPlace : FnScope NAPlace ["ground", "numbers"] (defScope sAPlace) := ⟨rfl, rfl, rfl, by decide +kernel, rfl, by decide +kernel, by decide +kernel⟩
abbrev sAPour : Stmt := top 56
abbrev NAPour : List Str := ["ground", "numbers", "x", "y", "z", "parts", "cell"]
theorem scAPour : FnScope NAPour ["ground", "numbers"] (defScope sAPour) := ⟨rfl, rfl, rfl, by decide +kernel, rfl, by decide +kernel, by decide +kernel⟩
abbrev sADrain : Stmt := top 57
theorem scADrain : FnScope NAPour ["ground", "numbers"] (defScope sADrain) := ⟨rfl, rfl, rfl, by decide +kernel, rfl, by decide +kernel, by decide +kernel⟩
section
variable {P : Program} {w : World} {K : PySem.W.Frag} {mg : Str → Option Value} {base : Heap} {CL CG : Addr}
theorem ok_aplace {f fI fC fA fN fL fB fP fR fO : Addr} {fd fdI fdC fdA fdN fdL fdB fdP fdR fdO : FuncData} (F : Fun K "answer_place" "answer_place" sAPlace f fd) (T : Txt K mg CL CG) (Y : LayT K CL fI fC fA fN fL fdI fdC fdA fdN fdL) (R : GrT K CG fB fP fR fO fdB fdP fdR fdO) :
    FnOk P w K mg base CX0 7 f fd ["ground", "numbers"] (spAns CL CG (fun ns => [3 :: ns]) fun ns => ns.length = 4) := by
  have GC : FnOk P w K mg base CX0 1 fC fdC ["self", "x", "y", "z"] (spCellAt CL) := ok_cell Y.FC T
  have GP : FnOk P w K mg base CX0 1 fP fdP ["self", "cell", "material"] (spPlace CL CG) := ok_place R.FP T
  refine F.ok scAPlace (fun vs H Q E h => ?_) (fun cdv A outer s H vs Q E hr h => ?_)
  · obtain ⟨_, _, _, _, _, rfl, _⟩ := h
    rfl
  · have hr1 : Room 1 _ := hr.mono (by decide)
    refine ⟨_, pss_cons (ps_asg (pv 1) (pg_unl rfl (pgs_cons (pg_name (i := 2) scAPlace.nd rfl (Or.inl rfl)) (pgs_cons (pg_name (i := 3) scAPlace.nd rfl (Or.inl rfl)) (pgs_cons (pg_name (i := 4) scAPlace.nd rfl (Or.inl rfl)) (pgs_cons (pg_name (i := 5) scAPlace.nd rfl (Or.inl rfl)) pgs_nil))))))
      (pss_cons (ps_set (i := 6) scAPlace.nd rfl (Or.inl rfl) (pe_meth (pe_fld (pv 0) rfl) T.clL Y.mC GC hr1 Y.bC .nil pass0 (pa_cons (pv 2) (pa_cons (pv 3) (pa_cons (pv 4) pa_nil)))))
      (pss_cons (ps_if (pt_cmpR op_isN (pv 6) pe_non (nomark _)) (pss_one (ps_ret (pe_lst (pa_cons (pe_un un_neg pe_int) pa_nil)))) pss_nil)
      (pss_cons (ps_if (pt_not (pt_chain op_le op_le (pe_gi T.gAIR) (pv 5) (pe_gi T.gWOOD))) (pss_one (ps_ret (pe_lst (pa_cons (pe_un un_neg pe_int) pa_nil)))) pss_nil)
      (pss_cons (ps_expr (pe_meth (pv 0) T.clG R.mP GP hr1 R.bP .nil pass0 (pa_cons (pv 6) (pa_cons (pv 5) pa_nil))))
      (pss_one (ps_ret (pe_lst (pa_cons pe_int pa_nil)))))))), ?_⟩
    obtain ⟨HF, x, r, s, ns, rfl, X, hr', hn, q⟩ := h
    obtain ⟨a, b, c, v, rfl⟩ := vi4 hn
    obtain ⟨m, w, ⟨dx, l, ma, wa, HL, G⟩, S, fu⟩ := id X
    obtain ⟨d, L⟩ := G.layH
    refine ⟨_, rfl, r, _, rfl, SqL.of (X.frame _ _ hr'), rfl, _, _, rfl, _, _, rfl, _, _, rfl, _, _, rfl, rfl, ?_⟩
    refine ⟨_, rfl, x, CG, dx, _, _, rfl, G.ins, T.clG, T.aLay, gF_lay, l, d.dx, _, rfl, L.ins, L.nCell, _, rfl, _, rfl, _, rfl, l, s.sx, s.sy, s.sz, a, b, c, rfl, L.sidesAt G.most, ?_⟩
    have st : VbwsarNeutral.step s [[3, a, b, c, v]] = Vbwsar.onCell s a b c fun k => if Vbwsar.inside v 0 5 = false then Vbwsar.no s (-2) else (Vbwsar.placed s k v.toNat, [0]) := rfl
    rcases onCell_is (s := s) a b c with ⟨ev, eo⟩ | ⟨k, kl, ev, eo⟩
    · rw [ev]
      rw [eo] at st
      exact ⟨_, rfl, rfl, _, rfl, iteT ⟨_, rfl, (by show 1 ≤ sizeLine; decide), fun p hp => fin q st X hp (by decide)⟩⟩
    · rw [ev]
      rw [eo, inside_iff] at st
      refine ⟨_, rfl, rfl, _, rfl, iteF ⟨_, rfl, _, _, rfl, rfl, _, rfl, ?_⟩⟩
      by_cases c1 : 0 ≤ v
      · rw [show decide ((0 : Int) ≤ v) = true from decide_eq_true c1]
        refine iteT ⟨_, _, rfl, rfl, _, rfl, ?_⟩
        by_cases c2 : v ≤ 5
        · rw [show decide (v ≤ (5 : Int)) = true from decide_eq_true c2]
          obtain ⟨n, rfl⟩ : ∃ n : Nat, v = (n : Int) := ⟨v.toNat, by omega⟩
          have n5 : n ≤ 5 := by omega
          rw [decide_eq_true ⟨c1, c2⟩, if_neg (by decide), Int.toNat_natCast] at st
          have P := placed_is S kl n5
          exact iteF ⟨_, rfl, x, dx, _, rfl, G.ins, gF_place, _, rfl, _, rfl, HF, x, s, m, w, s.ticks, k, n, rfl, G.ge, kl, n5, fun H' G' => ⟨(by show 1 ≤ sizeLine; decide), fun p hp => fin q st (GX.of G' P.1 P.2 fu) hp (Nat.le_of_ble_eq_true rfl)⟩⟩
        · rw [show decide (v ≤ (5 : Int)) = false from decide_eq_false c2]
          rw [decide_eq_false (fun z => c2 z.2), if_pos rfl] at st
          exact iteT ⟨_, rfl, (by show 1 ≤ sizeLine; decide), fun p hp => fin q st X hp (by decide)⟩
      · rw [show decide ((0 : Int) ≤ v) = false from decide_eq_false c1]
        rw [decide_eq_false (fun z => c1 z.1), if_pos rfl] at st
        exact iteF ⟨_, rfl, iteT ⟨_, rfl, (by show 1 ≤ sizeLine; decide), fun p hp => fin q st X hp (by decide)⟩⟩
theorem ok_apour {f fI fC fA fN fL fB fP fR fO fM : Addr} {fd fdI fdC fdA fdN fdL fdB fdP fdR fdO fdM : FuncData} (F : Fun K "answer_pour" "answer_pour" sAPour f fd) (T : Txt K mg CL CG) (Y : LayT K CL fI fC fA fN fL fdI fdC fdA fdN fdL) (R : GrT K CG fB fP fR fO fdB fdP fdR fdO) (DM : DefN K mg "room_in" sRoom NRoom fM fdM) :
    FnOk P w K mg base CX0 7 f fd ["ground", "numbers"] (spAns CL CG (fun ns => [4 :: ns]) fun ns => ns.length = 4) := by
  have GC : FnOk P w K mg base CX0 1 fC fdC ["self", "x", "y", "z"] (spCellAt CL) := ok_cell Y.FC T
  have GR : FnOk P w K mg base CX0 2 fR fdR ["self", "cell"] (spGRoom CL CG) := ok_groom R.FR T DM
  refine F.ok scAPour (fun vs H Q E h => ?_) (fun cdv A outer s H vs Q E hr h => ?_)
  · obtain ⟨_, _, _, _, _, rfl, _⟩ := h
    rfl
  · have hr1 : Room 1 _ := hr.mono (by decide)
    have hr2 : Room 2 _ := hr.mono (by decide)
    refine ⟨_, pss_cons (ps_asg (pv 1) (pg_unl rfl (pgs_cons (pg_name (i := 2) scAPour.nd rfl (Or.inl rfl)) (pgs_cons (pg_name (i := 3) scAPour.nd rfl (Or.inl rfl)) (pgs_cons (pg_name (i := 4) scAPour.nd rfl (Or.inl rfl)) (pgs_cons (pg_name (i := 5) scAPour.nd rfl (Or.inl rfl)) pgs_nil))))))
      (pss_cons (ps_set (i := 6) scAPour.nd rfl (Or.inl rfl) (pe_meth (pe_fld (pv 0) rfl) T.clL Y.mC GC hr1 Y.bC .nil pass0 (pa_cons (pv 2) (pa_cons (pv 3) (pa_cons (pv 4) pa_nil)))))
      (pss_cons (ps_if (pt_cmpR op_isN (pv 6) pe_non (nomark _)) (pss_one (ps_ret (pe_lst (pa_cons (pe_un un_neg pe_int) pa_nil)))) pss_nil)
      (pss_cons (ps_if (pt_not (pt_chain op_le op_le pe_int (pv 5) (pe_meth (pv 0) T.clG R.mR GR hr2 R.bR .nil pass0 (pa_cons (pv 6) pa_nil)))) (pss_one (ps_ret (pe_lst (pa_cons (pe_un un_neg pe_int) pa_nil)))) pss_nil)
      (pss_cons (ps_augS (pe_fld (pv 0) rfl) (pv 6) get_listN (pv 5) ip_addN set_list)
      (pss_one (ps_ret (pe_lst (pa_cons pe_int (pa_cons (pe_ix ix_list (pe_fld (pv 0) rfl) (pv 6) (fun _ _ => rfl)) pa_nil))))))))), ?_⟩
    obtain ⟨HF, x, r, s, ns, rfl, X, hr', hn, q⟩ := h
    obtain ⟨a, b, c, v, rfl⟩ := vi4 hn
    obtain ⟨m, w, ⟨dx, l, ma, wa, HL, G⟩, S, fu⟩ := id X
    obtain ⟨d, L⟩ := G.layH
    refine ⟨_, rfl, r, _, rfl, SqL.of (X.frame _ _ hr'), rfl, _, _, rfl, _, _, rfl, _, _, rfl, _, _, rfl, rfl, ?_⟩
    refine ⟨_, rfl, x, CG, dx, _, _, rfl, G.ins, T.clG, T.aLay, gF_lay, l, d.dx, _, rfl, L.ins, L.nCell, _, rfl, _, rfl, _, rfl, l, s.sx, s.sy, s.sz, a, b, c, rfl, L.sidesAt G.most, ?_⟩
    have st : VbwsarNeutral.step s [[4, a, b, c, v]] = Vbwsar.onCell s a b c fun k => if Vbwsar.inside v 1 (Vbwsar.room s k : Int) = false then Vbwsar.no s (-3) else (Vbwsar.pour s k v.toNat, [0, (Vbwsar.waterAt (Vbwsar.pour s k v.toNat) k : Int)]) := rfl
    rcases onCell_is (s := s) a b c with ⟨ev, eo⟩ | ⟨k, kl, ev, eo⟩
    · rw [ev]
      rw [eo] at st
      exact ⟨_, rfl, rfl, _, rfl, iteT ⟨_, rfl, (by show 1 ≤ sizeLine; decide), fun p hp => fin q st X hp (by decide)⟩⟩
    · rw [ev]
      rw [eo, inside_iff, room_is S.toHolds] at st
      refine ⟨_, rfl, rfl, _, rfl, iteF ⟨_, rfl, _, _, rfl, rfl, _, rfl, ?_⟩⟩
      by_cases c1 : 1 ≤ v
      · rw [show decide ((1 : Int) ≤ v) = true from decide_eq_true c1]
        refine iteT ⟨_, rfl, x, dx, _, rfl, G.ins, gF_room, _, rfl, HF, x, s, m, w, s.ticks, k, rfl, G.ge, kl, _, _, rfl, rfl, _, rfl, ?_⟩
        by_cases c2 : v ≤ (roomM m w k : Int)
        · rw [show decide (v ≤ (roomM m w k : Int)) = true from decide_eq_true c2]
          obtain ⟨n, rfl⟩ : ∃ n : Nat, v = (n : Int) := ⟨v.toNat, by omega⟩
          have nr : n ≤ roomM m w k := by omega
          have P := pour_is S kl nr
          rw [decide_eq_true ⟨c1, c2⟩, if_neg (by decide), Int.toNat_natCast, P.1.ew] at st
          have kw : k < w.length := by rw [G.wl]; exact kl
          have w8 := roomM_le (m := m) (G.w8 k)
          have G1 := G.setW (k := k) (v := w.getD k 0 + n) (by omega)
          refine iteF ⟨_, rfl, x, CG, dx, _, _, rfl, G.ins, T.clG, T.aWat, gF_wat, _, rfl, wa, _, k, _, rfl, rfl, G.iw, vn_at kw, _, rfl, _, _, rfl, rfl, wa, _, _, k, rfl, rfl, G.iw, vn_ixN kw, ?_⟩
          exact ⟨_, rfl, x, CG, dx, _, _, rfl, G1.ins, T.clG, T.aWat, gF_wat, _, rfl, wa, _, k, _, rfl, rfl, SqL.of G1.iw, vn_atI (by rw [List.length_set]; exact kw), (by show 2 ≤ sizeLine; decide), fun p hp => fin q st (GX.of G1.ge P.1 P.2 fu) hp (Nat.le_of_ble_eq_true rfl)⟩
        · rw [show decide (v ≤ (roomM m w k : Int)) = false from decide_eq_false c2]
          rw [decide_eq_false (fun z => c2 z.2), if_pos rfl] at st
          exact iteT ⟨_, rfl, (by show 1 ≤ sizeLine; decide), fun p hp => fin q st X hp (by decide)⟩
      · rw [show decide ((1 : Int) ≤ v) = false from decide_eq_false c1]
        rw [decide_eq_false (fun z => c1 z.1), if_pos rfl] at st
        exact iteF ⟨_, rfl, iteT ⟨_, rfl, (by show 1 ≤ sizeLine; decide), fun p hp => fin q st X hp (by decide)⟩⟩
theorem ok_adrain {f fI fC fA fN fL fB fP fR fO : Addr} {fd fdI fdC fdA fdN fdL fdB fdP fdR fdO : FuncData} (F : Fun K "answer_drain" "answer_drain" sADrain f fd) (T : Txt K mg CL CG) (Y : LayT K CL fI fC fA fN fL fdI fdC fdA fdN fdL) (R : GrT K CG fB fP fR fO fdB fdP fdR fdO) :
    FnOk P w K mg base CX0 7 f fd ["ground", "numbers"] (spAns CL CG (fun ns => [5 :: ns]) fun ns => ns.length = 4) := by
  have GC : FnOk P w K mg base CX0 1 fC fdC ["self", "x", "y", "z"] (spCellAt CL) := ok_cell Y.FC T
  refine F.ok scADrain (fun vs H Q E h => ?_) (fun cdv A outer s H vs Q E hr h => ?_)
  · obtain ⟨_, _, _, _, _, rfl, _⟩ := h
    rfl
  · have hr1 : Room 1 _ := hr.mono (by decide)
    refine ⟨_, pss_cons (ps_asg (pv 1) (pg_unl rfl (pgs_cons (pg_name (i := 2) scADrain.nd rfl (Or.inl rfl)) (pgs_cons (pg_name (i := 3) scADrain.nd rfl (Or.inl rfl)) (pgs_cons (pg_name (i := 4) scADrain.nd rfl (Or.inl rfl)) (pgs_cons (pg_name (i := 5) scADrain.nd rfl (Or.inl rfl)) pgs_nil))))))
      (pss_cons (ps_set (i := 6) scADrain.nd rfl (Or.inl rfl) (pe_meth (pe_fld (pv 0) rfl) T.clL Y.mC GC hr1 Y.bC .nil pass0 (pa_cons (pv 2) (pa_cons (pv 3) (pa_cons (pv 4) pa_nil)))))
      (pss_cons (ps_if (pt_cmpR op_isN (pv 6) pe_non (nomark _)) (pss_one (ps_ret (pe_lst (pa_cons (pe_un un_neg pe_int) pa_nil)))) pss_nil)
      (pss_cons (ps_if (pt_not (pt_chain op_le op_le pe_int (pv 5) (pe_ix ix_list (pe_fld (pv 0) rfl) (pv 6) (fun _ _ => rfl)))) (pss_one (ps_ret (pe_lst (pa_cons (pe_un un_neg pe_int) pa_nil)))) pss_nil)
      (pss_cons (ps_augS (pe_fld (pv 0) rfl) (pv 6) get_listN (pv 5) ip_subN set_list)
      (pss_one (ps_ret (pe_lst (pa_cons pe_int (pa_cons (pe_ix ix_list (pe_fld (pv 0) rfl) (pv 6) (fun _ _ => rfl)) pa_nil))))))))), ?_⟩
    obtain ⟨HF, x, r, s, ns, rfl, X, hr', hn, q⟩ := h
    obtain ⟨a, b, c, v, rfl⟩ := vi4 hn
    obtain ⟨m, w, ⟨dx, l, ma, wa, HL, G⟩, S, fu⟩ := id X
    obtain ⟨d, L⟩ := G.layH
    refine ⟨_, rfl, r, _, rfl, SqL.of (X.frame _ _ hr'), rfl, _, _, rfl, _, _, rfl, _, _, rfl, _, _, rfl, rfl, ?_⟩
    refine ⟨_, rfl, x, CG, dx, _, _, rfl, G.ins, T.clG, T.aLay, gF_lay, l, d.dx, _, rfl, L.ins, L.nCell, _, rfl, _, rfl, _, rfl, l, s.sx, s.sy, s.sz, a, b, c, rfl, L.sidesAt G.most, ?_⟩
    have st : VbwsarNeutral.step s [[5, a, b, c, v]] = Vbwsar.onCell s a b c fun k => if Vbwsar.inside v 1 (Vbwsar.waterAt s k : Int) = false then Vbwsar.no s (-3) else (Vbwsar.drain s k v.toNat, [0, (Vbwsar.waterAt (Vbwsar.drain s k v.toNat) k : Int)]) := rfl
    rcases onCell_is (s := s) a b c with ⟨ev, eo⟩ | ⟨k, kl, ev, eo⟩
    · rw [ev]
      rw [eo] at st
      exact ⟨_, rfl, rfl, _, rfl, iteT ⟨_, rfl, (by show 1 ≤ sizeLine; decide), fun p hp => fin q st X hp (by decide)⟩⟩
    · rw [ev]
      rw [eo, inside_iff, S.ew] at st
      have kw : k < w.length := by rw [G.wl]; exact kl
      refine ⟨_, rfl, rfl, _, rfl, iteF ⟨_, rfl, _, _, rfl, rfl, _, rfl, ?_⟩⟩
      by_cases c1 : 1 ≤ v
      · rw [show decide ((1 : Int) ≤ v) = true from decide_eq_true c1]
        refine iteT ⟨_, rfl, x, CG, dx, _, _, rfl, G.ins, T.clG, T.aWat, gF_wat, _, rfl, wa, _, k, _, rfl, rfl, SqL.of G.iw, vn_atI kw, _, _, rfl, rfl, _, rfl, ?_⟩
        by_cases c2 : v ≤ (w.getD k 0 : Int)
        · rw [show decide (v ≤ (w.getD k 0 : Int)) = true from decide_eq_true c2]
          obtain ⟨n, rfl⟩ : ∃ n : Nat, v = (n : Int) := ⟨v.toNat, by omega⟩
          have nr : n ≤ w.getD k 0 := by omega
          have P := drain_is S kl nr
          rw [decide_eq_true ⟨c1, c2⟩, if_neg (by decide), Int.toNat_natCast, P.1.ew] at st
          have w8 := G.w8 k
          have G1 := G.setW (k := k) (v := w.getD k 0 - n) (by omega)
          refine iteF ⟨_, rfl, x, CG, dx, _, _, rfl, G.ins, T.clG, T.aWat, gF_wat, _, rfl, wa, _, k, _, rfl, rfl, G.iw, vn_at kw, _, rfl, _, _, rfl, rfl, nr, wa, _, _, k, rfl, rfl, G.iw, vn_ixN kw, ?_⟩
          exact ⟨_, rfl, x, CG, dx, _, _, rfl, G1.ins, T.clG, T.aWat, gF_wat, _, rfl, wa, _, k, _, rfl, rfl, SqL.of G1.iw, vn_atI (by rw [List.length_set]; exact kw), (by show 2 ≤ sizeLine; decide), fun p hp => fin q st (GX.of G1.ge P.1 P.2 fu) hp (Nat.le_of_ble_eq_true rfl)⟩
        · rw [show decide (v ≤ (w.getD k 0 : Int)) = false from decide_eq_false c2]
          rw [decide_eq_false (fun z => c2 z.2), if_pos rfl] at st
          exact iteT ⟨_, rfl, (by show 1 ≤ sizeLine; decide), fun p hp => fin q st X hp (by decide)⟩
      · rw [show decide ((1 : Int) ≤ v) = false from decide_eq_false c1]
        rw [decide_eq_false (fun z => c1 z.1), if_pos rfl] at st
        exact iteF ⟨_, rfl, iteT ⟨_, rfl, (by show 1 ≤ sizeLine; decide), fun p hp => fin q st X hp (by decide)⟩⟩
end
end Gr
set_option Elab.async false
set_option linter.all false
set_option maxRecDepth 100000
set_option maxHeartbeats 4000000
namespace Gr
open PySem PySem.Spec PyProof.Rows L2
open Vbwsar (Ground)
/-! ## tick, settle -/
abbrev sATick : Stmt := top 58
abbrev NATick : List Str := ["ground", "numbers", "ticks", "materials", "water", "made", "quiet"]
theorem scATick : FnScope NATick ["ground", "numbers"] (defScope sATick) := ⟨rfl, rfl, rfl, by decide +kernel, rfl, by decide +kernel, by decide +kernel⟩
abbrev sASettle : Stmt := top 59
abbrev NASettle : List Str := ["ground", "numbers", "most", "materials", "water", "made", "quiet"]
theorem scASettle : FnScope NASettle ["ground", "numbers"] (defScope sASettle) := ⟨rfl, rfl, rfl, by decide +kernel, rfl, by decide +kernel, by decide +kernel⟩
/-- the defs that a tick goes through -/
structure TickT (K : PySem.W.Frag) (mg : Str → Option Value) (f1 f2 f3 f4 f5 f6 f7 f8 f9 f0 : Addr) (d1 d2 d3 d4 d5 d6 d7 d8 d9 d0 : FuncData) : Prop where
  foot : DefN K mg "has_foot" sFoot ["layout", "materials", "cell"] f1 d1
  held : DefN K mg "held_wood" sHeld ["layout", "materials"] f2 d2
  loose : DefN K mg "loose_cells" sLoose ["layout", "materials"] f3 d3
  fall : DefN K mg "let_fall" sFall ["layout", "materials", "water"] f4 d4
  room : DefN K mg "room_in" sRoom NRoom f5 d5
  down : DefN K mg "run_down" sDown ["layout", "materials", "water", "cell"] f6 d6
  aside : DefN K mg "run_aside" sAside ["layout", "materials", "water", "cell"] f7 d7
  run : DefN K mg "let_run" sRun ["layout", "materials", "water"] f8 d8
  tick : DefN K mg "behind_tick" sTick ["layout", "materials", "water"] f9 d9
  ticks : DefN K mg "behind_ticks" sTicks ["ground", "most"] f0 d0
section
variable {P : Program} {w : World} {K : PySem.W.Frag} {mg : Str → Option Value} {base : Heap} {CL CG : Addr}
theorem TickT.okLoose {f1 f2 f3 f4 f5 f6 f7 f8 f9 f0 : Addr} {d1 d2 d3 d4 d5 d6 d7 d8 d9 d0 : FuncData} (D : TickT K mg f1 f2 f3 f4 f5 f6 f7 f8 f9 f0 d1 d2 d3 d4 d5 d6 d7 d8 d9 d0) (T : Txt K mg CL CG) : FnOk P w K mg base CX0 3 f3 d3 ["layout", "materials"] (spLoose CL) :=
  ok_loose D.loose.F T D.held.F (ok_held D.held.F T D.foot.F D.foot.g D.foot.b) D.held.g D.held.b
theorem TickT.ok {f1 f2 f3 f4 f5 f6 f7 f8 f9 f0 : Addr} {d1 d2 d3 d4 d5 d6 d7 d8 d9 d0 : FuncData} (D : TickT K mg f1 f2 f3 f4 f5 f6 f7 f8 f9 f0 d1 d2 d3 d4 d5 d6 d7 d8 d9 d0) (T : Txt K mg CL CG) : FnOk P w K mg base CX0 6 f0 d0 ["ground", "most"] (spTicks CG CL) := by
  have GF : FnOk P w K mg base CX0 4 f4 d4 ["layout", "materials", "water"] (spTwo CL fallM) := ok_fall D.fall.F T D.loose.F (D.okLoose T) D.loose.g D.loose.b
  have GR : FnOk P w K mg base CX0 1 f5 d5 NRoom spRoom := ok_room D.room.F T
  have GD : FnOk P w K mg base CX0 2 f6 d6 ["layout", "materials", "water", "cell"] (spCell CL downM) := ok_down D.down.F T D.room.F GR D.room.g D.room.b
  have GA : FnOk P w K mg base CX0 1 f7 d7 ["layout", "materials", "water", "cell"] (spCell CL asideM) := ok_aside D.aside.F T
  have GU := ok_run (P := P) (w := w) (base := base) D.run.F T D.down.F GD D.down.g D.down.b D.aside.F GA D.aside.g D.aside.b
  have GT := ok_tick (P := P) (w := w) (base := base) D.tick.F T D.fall.F GF D.fall.g D.fall.b D.run.F GU D.run.g D.run.b
  exact ok_ticks D.ticks.F T D.tick.F GT D.tick.g D.tick.b
theorem ok_atick {f fB fP fR fO f1 f2 f3 f4 f5 f6 f7 f8 f9 f0 : Addr} {fd fdB fdP fdR fdO d1 d2 d3 d4 d5 d6 d7 d8 d9 d0 : FuncData} (F : Fun K "answer_tick" "answer_tick" sATick f fd) (T : Txt K mg CL CG) (R : GrT K CG fB fP fR fO fdB fdP fdR fdO)
    (D : TickT K mg f1 f2 f3 f4 f5 f6 f7 f8 f9 f0 d1 d2 d3 d4 d5 d6 d7 d8 d9 d0) : FnOk P w K mg base CX0 7 f fd ["ground", "numbers"] (spAns CL CG (fun ns => [6 :: ns]) fun ns => ns.length = 1) := by
  have GK : FnOk P w K mg base CX0 6 f0 d0 ["ground", "most"] (spTicks CG CL) := D.ok T
  have GO : FnOk P w K mg base CX0 1 fO fdO ["self", "materials", "water", "ticks"] (spPass CL CG) := ok_pass R.FO T
  refine F.ok scATick (fun vs H Q E h => ?_) (fun cdv A outer s H vs Q E hr h => ?_)
  · obtain ⟨_, _, _, _, _, rfl, _⟩ := h
    rfl
  · have hr1 : Room 1 _ := hr.mono (by decide)
    refine ⟨_, pss_cons (ps_set (i := 2) scATick.nd rfl (Or.inl rfl) (pe_ix ix_list (pv 1) pe_int (fun _ _ => rfl)))
      (pss_cons (ps_if (pt_not (pt_chain op_le op_le pe_int (pv 2) (pe_gi T.gTICKS))) (pss_one (ps_ret (pe_lst (pa_cons (pe_un un_neg pe_int) pa_nil)))) pss_nil)
      (pss_cons (ps_asg (pe_call GK hr rfl D.ticks.g D.ticks.F.kp D.ticks.b .nil pass0 (pa_cons (pv 0) (pa_cons (pv 2) pa_nil))) (pg_tup (by rfl) (pgs_cons (pg_name (i := 3) scATick.nd rfl (Or.inl rfl)) (pgs_cons (pg_name (i := 4) scATick.nd rfl (Or.inl rfl)) (pgs_cons (pg_name (i := 5) scATick.nd rfl (Or.inl rfl)) (pgs_cons (pg_name (i := 6) scATick.nd rfl (Or.inl rfl)) pgs_nil))))))
      (pss_cons (ps_expr (pe_meth (pv 0) T.clG R.mO GO hr1 R.bO .nil pass0 (pa_cons (pv 3) (pa_cons (pv 4) (pa_cons (pv 2) pa_nil)))))
      (pss_one (ps_ret (pe_lst (pa_cons pe_int (pa_cons (pe_fld (pv 0) rfl) (pa_cons (pe_ifExp (pt_val (pv 6)) pe_int pe_int) pa_nil))))))))), ?_⟩
    obtain ⟨HF, x, r, s, ns, rfl, X, hr', hn, q⟩ := h
    obtain ⟨v, rfl⟩ := vi1 hn
    obtain ⟨m, w, ⟨dx, l, ma, wa, HL, G⟩, S, fu⟩ := id X
    have L := G.layH
    refine ⟨_, rfl, r, _, 0, _, rfl, rfl, SqL.of (X.frame _ _ hr'), rfl, ?_⟩
    refine ⟨_, rfl, _, _, rfl, rfl, _, rfl, ?_⟩
    have st : VbwsarNeutral.step s [[6, v]] = if Vbwsar.inside v 1 50 = false then Vbwsar.no s (-2) else (Vbwsar.ticksOf v.toNat s, [0, ((Vbwsar.ticksOf v.toNat s).ticks : Int), if Vbwsar.quiet (Vbwsar.ticksOf v.toNat s) = true then 1 else 0]) := rfl
    rw [inside_iff] at st
    by_cases c1 : 1 ≤ v
    · rw [show decide ((1 : Int) ≤ v) = true from decide_eq_true c1]
      refine iteT ⟨_, _, rfl, rfl, _, rfl, ?_⟩
      by_cases c2 : v ≤ 50
      · rw [show decide (v ≤ (50 : Int)) = true from decide_eq_true c2]
        obtain ⟨n, rfl⟩ : ∃ n : Nat, v = (n : Int) := ⟨v.toNat, by omega⟩
        have K' := ticks_is (g := s) n 0 S
        rw [decide_eq_true ⟨c1, c2⟩, if_neg (by decide), Int.toNat_natCast, K'.2.1, K'.2.2] at st
        refine iteF ⟨_, rfl, _, rfl, x, l, ma, wa, s, m, w, n, rfl, ⟨dx, _, G.ins, gF_lay, gF_mat, gF_wat⟩, L, G.im, G.iw, G.ml, G.wl, G.sz, G.w8, by omega, fun H1 p a2 b2 s1 ab e1 im2 iw2 => ?_⟩
        have ml2 := K'.1.ml
        have wl2 := K'.1.wl
        have w82 := K'.1.w8
        have m52 := K'.1.five
        generalize goM s n 0 m w = z at *
        have G1 := G.same s1
        have q2 : a2 ≠ b2 ∧ HF a2 = none ∧ HF b2 = none ∧ HL a2 = none ∧ HL b2 = none := by
          rcases ab with ⟨rfl, rfl⟩ | ⟨na, nb, ne⟩
          · exact ⟨G.ab, G.fa, G.fb, G.la, G.lb⟩
          · exact ⟨ne, G.subF.free na, G.subF.free nb, G.subL.free na, G.subL.free nb⟩
        refine ⟨p, _, rfl, SqT.of e1, rfl, _, _, rfl, _, _, rfl, _, _, rfl, _, _, rfl, rfl, ?_⟩
        refine ⟨_, rfl, x, dx, _, rfl, G1.ins, gF_pass, _, rfl, _, rfl, _, rfl, HF, HL, x, dx, l, ma, wa, a2, b2, s, m, w, z.1, z.2.1, s.ticks, n, rfl, G1, im2, iw2, q2.1, q2.2.1, q2.2.2.1, q2.2.2.2.1, q2.2.2.2.2, ml2, wl2, w82, m52, fun H2 G2 => ?_⟩
        have X2 : GX CL CG HF H2 x (Vbwsar.ticksOf n s) := GX.of G2 K'.1 K'.2.1 fu
        obtain ⟨dx2, l2, ma2, wa2, HL2, G3⟩ := G2
        refine ⟨_, rfl, x, CG, dx2, _, _, rfl, G3.ins, T.clG, T.aTic, gF_tic, _, rfl, _, rfl, ?_⟩
        cases qu : z.2.2.2 with
        | true =>
          rw [qu, if_pos rfl] at st
          exact iteT ⟨(by show 3 ≤ sizeLine; decide), fun p hp => fin q st X2 hp (Nat.le_of_ble_eq_true rfl)⟩
        | false =>
          rw [qu, if_neg (by decide)] at st
          exact iteF ⟨(by show 3 ≤ sizeLine; decide), fun p hp => fin q st X2 hp (Nat.le_of_ble_eq_true rfl)⟩
      · rw [show decide (v ≤ (50 : Int)) = false from decide_eq_false c2]
        rw [decide_eq_false (fun z => c2 z.2), if_pos rfl] at st
        exact iteT ⟨_, rfl, (by show 1 ≤ sizeLine; decide), fun p hp => fin q st X hp (by decide)⟩
    · rw [show decide ((1 : Int) ≤ v) = false from decide_eq_false c1]
      rw [decide_eq_false (fun z => c1 z.1), if_pos rfl] at st
      exact iteF ⟨_, rfl, iteT ⟨_, rfl, (by show 1 ≤ sizeLine; decide), fun p hp => fin q st X hp (by decide)⟩⟩
theorem ok_asettle {f fB fP fR fO f1 f2 f3 f4 f5 f6 f7 f8 f9 f0 : Addr} {fd fdB fdP fdR fdO d1 d2 d3 d4 d5 d6 d7 d8 d9 d0 : FuncData} (F : Fun K "answer_settle" "answer_settle" sASettle f fd) (T : Txt K mg CL CG) (R : GrT K CG fB fP fR fO fdB fdP fdR fdO)
    (D : TickT K mg f1 f2 f3 f4 f5 f6 f7 f8 f9 f0 d1 d2 d3 d4 d5 d6 d7 d8 d9 d0) : FnOk P w K mg base CX0 7 f fd ["ground", "numbers"] (spAns CL CG (fun ns => [7 :: ns]) fun ns => ns.length = 1) := by
  have GK : FnOk P w K mg base CX0 6 f0 d0 ["ground", "most"] (spTicks CG CL) := D.ok T
  have GO : FnOk P w K mg base CX0 1 fO fdO ["self", "materials", "water", "ticks"] (spPass CL CG) := ok_pass R.FO T
  refine F.ok scASettle (fun vs H Q E h => ?_) (fun cdv A outer s H vs Q E hr h => ?_)
  · obtain ⟨_, _, _, _, _, rfl, _⟩ := h
    rfl
  · have hr1 : Room 1 _ := hr.mono (by decide)
    refine ⟨_, pss_cons (ps_set (i := 2) scASettle.nd rfl (Or.inl rfl) (pe_ix ix_list (pv 1) pe_int (fun _ _ => rfl)))
      (pss_cons (ps_if (pt_not (pt_chain op_le op_le pe_int (pv 2) (pe_gi T.gSETT))) (pss_one (ps_ret (pe_lst (pa_cons (pe_un un_neg pe_int) pa_nil)))) pss_nil)
      (pss_cons (ps_asg (pe_call GK hr rfl D.ticks.g D.ticks.F.kp D.ticks.b .nil pass0 (pa_cons (pv 0) (pa_cons (pv 2) pa_nil))) (pg_tup (by rfl) (pgs_cons (pg_name (i := 3) scASettle.nd rfl (Or.inl rfl)) (pgs_cons (pg_name (i := 4) scASettle.nd rfl (Or.inl rfl)) (pgs_cons (pg_name (i := 5) scASettle.nd rfl (Or.inl rfl)) (pgs_cons (pg_name (i := 6) scASettle.nd rfl (Or.inl rfl)) pgs_nil))))))
      (pss_cons (ps_if (pt_not (pt_val (pv 6))) (pss_one (ps_ret (pe_lst (pa_cons (pe_un un_neg pe_int) pa_nil)))) pss_nil)
      (pss_cons (ps_expr (pe_meth (pv 0) T.clG R.mO GO hr1 R.bO .nil pass0 (pa_cons (pv 3) (pa_cons (pv 4) (pa_cons (pv 5) pa_nil)))))
      (pss_one (ps_ret (pe_lst (pa_cons pe_int (pa_cons (pv 5) pa_nil))))))))), ?_⟩
    obtain ⟨HF, x, r, s, ns, rfl, X, hr', hn, q⟩ := h
    obtain ⟨v, rfl⟩ := vi1 hn
    obtain ⟨m, w, ⟨dx, l, ma, wa, HL, G⟩, S, fu⟩ := id X
    have L := G.layH
    refine ⟨_, rfl, r, _, 0, _, rfl, rfl, SqL.of (X.frame _ _ hr'), rfl, ?_⟩
    refine ⟨_, rfl, _, _, rfl, rfl, _, rfl, ?_⟩
    have st : VbwsarNeutral.step s [[7, v]] = if Vbwsar.inside v 1 (Vbwsar.MOST : Int) = false then Vbwsar.no s (-2) else match Vbwsar.untilQuiet v.toNat 0 s with
      | none => Vbwsar.no s (-4)
      | some x => (x.2, [0, (x.1 : Int)]) := rfl
    rw [inside_iff, show (Vbwsar.MOST : Int) = 200 from rfl] at st
    by_cases c1 : 1 ≤ v
    · rw [show decide ((1 : Int) ≤ v) = true from decide_eq_true c1]
      refine iteT ⟨_, _, rfl, rfl, _, rfl, ?_⟩
      by_cases c2 : v ≤ 200
      · rw [show decide (v ≤ (200 : Int)) = true from decide_eq_true c2]
        obtain ⟨n, rfl⟩ : ∃ n : Nat, v = (n : Int) := ⟨v.toNat, by omega⟩
        rw [decide_eq_true ⟨c1, c2⟩, if_neg (by decide), Int.toNat_natCast] at st
        have K' := settle_is (g := s) n 0 S
        refine iteF ⟨_, rfl, _, rfl, x, l, ma, wa, s, m, w, n, rfl, ⟨dx, _, G.ins, gF_lay, gF_mat, gF_wat⟩, L, G.im, G.iw, G.ml, G.wl, G.sz, G.w8, by omega, fun H1 p a2 b2 s1 ab e1 im2 iw2 => ?_⟩
        generalize goM s n 0 m w = z at *
        have G1 := G.same s1
        have q2 : a2 ≠ b2 ∧ HF a2 = none ∧ HF b2 = none ∧ HL a2 = none ∧ HL b2 = none := by
          rcases ab with ⟨rfl, rfl⟩ | ⟨na, nb, ne⟩
          · exact ⟨G.ab, G.fa, G.fb, G.la, G.lb⟩
          · exact ⟨ne, G.subF.free na, G.subF.free nb, G.subL.free na, G.subL.free nb⟩
        refine ⟨p, _, rfl, SqT.of e1, rfl, _, _, rfl, _, _, rfl, _, _, rfl, _, _, rfl, rfl, ?_⟩
        refine ⟨_, rfl, _, rfl, ?_⟩
        cases qu : z.2.2.2 with
        | false =>
          rw [qu, if_neg (by decide)] at K'
          rw [K'] at st
          exact iteT ⟨_, rfl, (by show 1 ≤ sizeLine; decide), fun p hp => fin q st (X.same s1) hp (by decide)⟩
        | true =>
          rw [qu, if_pos rfl] at K'
          obtain ⟨t, e, S', et⟩ := K'
          rw [e] at st
          refine iteF ⟨_, rfl, x, dx, _, rfl, G1.ins, gF_pass, _, rfl, _, rfl, _, rfl, HF, HL, x, dx, l, ma, wa, a2, b2, s, m, w, z.1, z.2.1, s.ticks, z.2.2.1, rfl, G1, im2, iw2, q2.1, q2.2.1, q2.2.2.1, q2.2.2.2.1, q2.2.2.2.2, S'.ml, S'.wl, S'.w8, S'.five, fun H2 G2 => ?_⟩
          have X2 : GX CL CG HF H2 x t := GX.of G2 S' (by omega) fu
          exact ⟨_, rfl, (by show 2 ≤ sizeLine; decide), fun p hp => fin q st X2 hp (Nat.le_of_ble_eq_true rfl)⟩
      · rw [show decide (v ≤ (200 : Int)) = false from decide_eq_false c2]
        rw [decide_eq_false (fun z => c2 z.2), if_pos rfl] at st
        exact iteT ⟨_, rfl, (by show 1 ≤ sizeLine; decide), fun p hp => fin q st X hp (by decide)⟩
    · rw [show decide ((1 : Int) ≤ v) = false from decide_eq_false c1]
      rw [decide_eq_false (fun z => c1 z.1), if_pos rfl] at st
      exact iteF ⟨_, rfl, iteT ⟨_, rfl, (by show 1 ≤ sizeLine; decide), fun p hp => fin q st X hp (by decide)⟩⟩
end
end Gr
set_option Elab.async false
set_option linter.all false
set_option maxRecDepth 100000
set_option maxHeartbeats 4000000
/-! # xs[a::c] -/
namespace Gr
open PySem PySem.Spec PyProof.Rows L2
theorem vals_pick {xs : List V} {its : List Value} (r : Vals xs its) : ∀ ks : List Nat, Vals (ks.filterMap (xs[·]?)) (ks.filterMap (its.toArray[·]?))
  | [] => .nil
  | k :: ks => by
    have ih := vals_pick r ks
    rw [List.filterMap_cons, List.filterMap_cons]
    by_cases h : k < xs.length
    · obtain ⟨u, hu, ru⟩ := r.get (List.getElem?_eq_getElem h)
      have hu' : its.toArray[k]? = some u := by simpa using hu
      rw [List.getElem?_eq_getElem h, hu']
      exact .cons ru ih
    · have hl := r.length
      have h2 : its.toArray[k]? = none := by
        rw [Array.getElem?_eq_none]
        rw [List.size_toArray]
        omega
      rw [List.getElem?_eq_none (by omega), h2]
      exact ih
theorem ceil_count {i c h : Nat} (hc : i < c) : (((c * h : Nat) : Int) - (i : Int) + (c : Int) - 1) / (c : Int) = (h : Int) := by
  have e : ((c * h : Nat) : Int) - (i : Int) + (c : Int) - 1 = ((c : Int) - 1 - (i : Int)) + (c : Int) * (h : Int) := by
    rw [Int.natCast_mul]
    omega
  rw [e, Int.add_mul_ediv_left _ _ (by omega), Int.ediv_eq_zero_of_lt (by omega) (by omega), Int.zero_add]
theorem step_range {i c h : Nat} (hc : i < c) (hh : 0 < h) : sliceRange (i : Int) ((c * h : Nat) : Int) (c : Int) = (List.range h).map fun k => i + c * k := by
  have il : i < c * h := Nat.lt_of_lt_of_le hc (Nat.le_mul_of_pos_right c hh)
  unfold sliceRange
  have c0 : (c : Int) > 0 := by omega
  have c1 : (i : Int) < ((c * h : Nat) : Int) := by omega
  dsimp only
  rw [if_pos c0, if_pos c1, ceil_count hc, Int.toNat_natCast]
  apply List.map_congr_left
  intro k _
  have e : (c : Int) * (k : Int) = ((c * k : Nat) : Int) := (Int.natCast_mul ..).symm
  rw [e]
  omega
/-- xs[i::c], h items -/
def tStepL (K : PySem.W.Frag) (te tl tc : TE) : TE := fun σ H Q => te σ H fun x H1 => tl σ H1 fun l H2 => tc σ H2 fun u H3 => ∃ (a : Addr) (xs : List V) (i c h : Nat), x = .ref a ∧ l = .int (i : Int) ∧ u = .int (c : Int) ∧ SqL K H3 a xs ∧ i < c ∧ 0 < h ∧ xs.length = c * h ∧
  ∀ p, H3 p = none → Q (.ref p) (upd H3 p (.lst (((List.range h).map fun k => i + c * k).filterMap (xs[·]?))))
theorem pe_stepL {X : Cx} {e lo st : Expr} {te tl tc : TE} {p2 pos : Pos} (he : PE X e te) (hl : PE X lo tl) (hc : PE X st tc) : PE X (.Subscript e (.Slice (some lo) none (some st) p2) pos) (tStepL X.K te tl tc) := by
  refine ⟨fun pins s σ H Q I h => ?_⟩
  refine Subscript_ (thn (he.run pins s σ H _ I h) fun v s1 ⟨x, H1, I1, r1, q1⟩ => ?_)
  refine wpAny_Slice ?_
  rw [evalPart_some]
  refine thn (hl.run pins s1 σ H1 _ I1 q1) fun vl s2 ⟨l, H2, I2, r2, q2⟩ => ?_
  rw [evalPart_none]
  refine wpAny_pure ?_
  rw [evalPart_some]
  refine thn (hc.run pins s2 σ H2 _ I2 q2) fun vs s4 ⟨u, H4, I4, r4, a, xs, i, c, h, ex, el, eu, hx, hic, hh, hlen, q⟩ => ?_
  subst ex el eu
  cases r1
  obtain ⟨t1, rfl⟩ := r2
  obtain ⟨t2, rfl⟩ := r4
  have I5 : Inv X pins σ H4 { s4 with heap := s4.heap.push { cls := .type "slice", data := .fields #[.int i t1, .none, .int c t2] } } := I4.kept (t' := s4.toks) fun b ob q => Heap.get?_push_of_some _ q
  obtain ⟨its, r, ht, hz⟩ := I5.list hx
  have hl2 := r.length
  show wpAny (model X.prog X.w) X.A (subscriptTail e (.Slice (some lo) none (some st) p2) (.ref a) (.ref s4.heap.objs.size)) (EP X pins σ Q) X.xe { s4 with heap := s4.heap.push { cls := .type "slice", data := .fields #[.int i t1, .none, .int c t2] } }
  refine tail_any (ops := [.ref a, .ref s4.heap.objs.size]) ht.isList.typeIs (PySem.slot_list_getitem.lookup) ?_ (by with_unfolding_all rfl)
  refine wpAny_getItem_list_slice ht.isList (Heap.IsSliceOf.new _ _ _ _) (.int (i : Int) t1) .none (.int (c : Int) t2) (by intro z; injection z with z; omega) ?_ (by rw [List.size_toArray]; omega)
  have il : i < c * h := Nat.lt_of_lt_of_le hic (Nat.le_mul_of_pos_right c hh)
  have pick : slicePick its.toArray (some (i : Int)) none (some (c : Int)) = (((List.range h).map fun k => i + c * k).filterMap (its.toArray[·]?)).toArray := by
    unfold slicePick
    have b : sliceBounds (some (i : Int)) none (some (c : Int)) its.toArray.size = ((i : Int), ((c * h : Nat) : Int), (c : Int)) := by
      have c0 : (c : Int) > 0 := by omega
      rw [List.size_toArray, ← hl2, hlen]
      simp only [sliceBounds, Option.getD_some, c0, if_true]
      have n0 : ¬ ((i : Int) < 0) := by omega
      simp only [n0, if_false]
      have m : max (0 : Int) (min (i : Int) ((c * h : Nat) : Int)) = (i : Int) := by omega
      rw [m]
    rw [b]
    dsimp only
    rw [step_range hic hh]
  rw [pick]
  have rp := vals_pick r ((List.range h).map fun k => i + c * k)
  refine ⟨.ref _, _, I5.laid (t' := s4.toks) (o := .lst (((List.range h).map fun k => i + c * k).filterMap (xs[·]?))) (fun b ob q => Heap.get?_push_of_some _ q) (Nat.le_refl _) ?_, rfl, q _ (I5.hok.fresh (Nat.le_refl _))⟩
  refine ⟨?_, _, 0, rp, Heap.get?_push_size _ rfl⟩
  refine Nat.le_trans (List.length_filterMap_le _ _) ?_
  rw [List.length_map, List.length_range]
  have : h ≤ c * h := Nat.le_mul_of_pos_left h (by omega)
  omega
end Gr
set_option Elab.async false
set_option linter.all false
set_option maxRecDepth 100000
set_option maxHeartbeats 4000000
namespace Gr
open PySem PySem.Spec PyProof.Rows L2
open Vbwsar (Ground)
/-- the defs of the light -/
structure LightT (K : PySem.W.Frag) (mg : Str → Option Value) (f1 f2 f3 f4 f5 f6 : Addr) (d1 d2 d3 d4 d5 d6 : FuncData) : Prop where
  clear : DefN K mg "is_clear" sClear NClear f1 d1
  opens : DefN K mg "open_cells" sOpen ["layout", "materials"] f2 d2
  own : DefN K mg "own_light" sOwn NOwn f3 d3
  owns : DefN K mg "own_lights" sOwns ["layout", "materials"] f4 d4
  lights : DefN K mg "lights" sLights ["layout", "materials"] f5 d5
  trail : DefN K mg "trail_from" sTrail ["layout", "materials", "cell"] f6 d6
/-! ## cell -/
abbrev sACell : Stmt := top 60
abbrev NACell : List Str := ["ground", "numbers", "x", "y", "z", "cell", "light"]
theorem scACell : FnScope NACell ["ground", "numbers"] (defScope sACell) := ⟨rfl, rfl, rfl, by decide +kernel, rfl, by decide +kernel, by decide +kernel⟩
/-! ## light -/
abbrev sALight : Stmt := top 61
abbrev NALight : List Str := ["ground", "numbers", "first", "light"]
theorem scALight : FnScope NALight ["ground", "numbers"] (defScope sALight) := ⟨rfl, rfl, rfl, by decide +kernel, rfl, by decide +kernel, by decide +kernel⟩
/-! ## deep -/
abbrev sADeep : Stmt := top 67
abbrev NADeep : List Str := ["ground", "numbers", "x", "y", "lowest"]
theorem scADeep : FnScope NADeep ["ground", "numbers"] (defScope sADeep) := ⟨rfl, rfl, rfl, by decide +kernel, rfl, by decide +kernel, by decide +kernel⟩
/-- a part of a list from a place not below 0 on -/
theorem cut_nat {xs : List V} {i j : Nat} (h : i ≤ j) (hj : j ≤ xs.length) : cutV xs (some (i : Int)) (some (j : Int)) = (xs.drop i).take (j - i) := by
  unfold cutV
  rw [HT.sIx_nat, HT.sIx_nat, Nat.min_eq_left hj, Nat.min_eq_left (Nat.le_trans h hj)]
theorem cat0 (ks : List Nat) : [V.int 0] ++ vn ks = vi (0 :: Vbwsar.ints ks) := by
  show V.int 0 :: vn ks = V.int 0 :: vi (Vbwsar.ints ks)
  rw [vi_ints]
theorem fm_congr {A B : Type} {f g : A → Option B} : ∀ l : List A, (∀ x ∈ l, f x = g x) → l.filterMap f = l.filterMap g
  | [], _ => rfl
  | a :: l, h => by
    rw [List.filterMap_cons, List.filterMap_cons, h a (List.mem_cons_self ..), fm_congr l fun x q => h x (List.mem_cons_of_mem _ q)]
theorem part_is (l : List Nat) (i n : Nat) (h : i + n ≤ l.length) : (l.drop i).take n = (List.range n).map fun k => l.getD (i + k) 0 := by
  apply List.ext_getElem
  · simp
    omega
  · intro k h1 h2
    rw [List.getElem_take, List.getElem_drop, List.getElem_map, List.getElem_range, List.getD_eq_getElem?_getD, List.getElem?_eq_getElem]
    rfl
theorem layer_end {s : Ground} {z : Nat} (hz : z < s.sz) : z * (s.sx * s.sy) + s.sx * s.sy ≤ Vbwsar.size s := by
  have : (z + 1) * (s.sx * s.sy) ≤ s.sz * (s.sx * s.sy) := Nat.mul_le_mul_right _ hz
  rw [Nat.add_mul, Nat.one_mul] at this
  unfold Vbwsar.size
  rw [← Nat.mul_assoc s.sx s.sy s.sz, Nat.mul_comm (s.sx * s.sy) s.sz]
  exact this
section
variable {P : Program} {w : World} {K : PySem.W.Frag} {mg : Str → Option Value} {base : Heap} {CL CG : Addr}
theorem ok_acell {f fI fC fA fN fL f1 f2 f3 f4 f5 f6 : Addr} {fd fdI fdC fdA fdN fdL d1 d2 d3 d4 d5 d6 : FuncData} (F : Fun K "answer_cell" "answer_cell" sACell f fd) (T : Txt K mg CL CG) (Y : LayT K CL fI fC fA fN fL fdI fdC fdA fdN fdL) (D : LightT K mg f1 f2 f3 f4 f5 f6 d1 d2 d3 d4 d5 d6) :
    FnOk P w K mg base CX0 7 f fd ["ground", "numbers"] (spAns CL CG (fun ns => [8 :: ns]) fun ns => ns.length = 3) := by
  have GC : FnOk P w K mg base CX0 1 fC fdC ["self", "x", "y", "z"] (spCellAt CL) := ok_cell Y.FC T
  have GL : FnOk P w K mg base CX0 4 f5 d5 ["layout", "materials"] (spList CL lightsM) := ok_lights D.lights.F T D.clear D.opens D.own D.owns
  refine F.ok scACell (fun vs H Q E h => ?_) (fun cdv A outer s H vs Q E hr h => ?_)
  · obtain ⟨_, _, _, _, _, rfl, _⟩ := h
    rfl
  · have hr1 : Room 1 _ := hr.mono (by decide)
    have hr4 : Room 4 _ := hr.mono (by decide)
    refine ⟨_, pss_cons (ps_asg (pv 1) (pg_unl rfl (pgs_cons (pg_name (i := 2) scACell.nd rfl (Or.inl rfl)) (pgs_cons (pg_name (i := 3) scACell.nd rfl (Or.inl rfl)) (pgs_cons (pg_name (i := 4) scACell.nd rfl (Or.inl rfl)) pgs_nil)))))
      (pss_cons (ps_set (i := 5) scACell.nd rfl (Or.inl rfl) (pe_meth (pe_fld (pv 0) rfl) T.clL Y.mC GC hr1 Y.bC .nil pass0 (pa_cons (pv 2) (pa_cons (pv 3) (pa_cons (pv 4) pa_nil)))))
      (pss_cons (ps_if (pt_cmpR op_isN (pv 5) pe_non (nomark _)) (pss_one (ps_ret (pe_lst (pa_cons (pe_un un_neg pe_int) pa_nil)))) pss_nil)
      (pss_cons (ps_set (i := 6) scACell.nd rfl (Or.inl rfl) (pe_call GL hr4 rfl D.lights.g D.lights.F.kp D.lights.b .nil pass0 (pa_cons (pe_fld (pv 0) rfl) (pa_cons (pe_fld (pv 0) rfl) pa_nil))))
      (pss_one (ps_ret (pe_lst (pa_cons pe_int (pa_cons (pe_ix ix_list (pe_fld (pv 0) rfl) (pv 5) (fun _ _ => rfl)) (pa_cons (pe_ix ix_list (pe_fld (pv 0) rfl) (pv 5) (fun _ _ => rfl)) (pa_cons (pe_ix ix_list (pv 6) (pv 5) (fun _ _ => rfl)) pa_nil)))))))))), ?_⟩
    obtain ⟨HF, x, r, s, ns, rfl, X, hr', hn, q⟩ := h
    obtain ⟨a, b, c, rfl⟩ := vi3 hn
    obtain ⟨m, w, ⟨dx, l, ma, wa, HL, G⟩, S, fu⟩ := id X
    obtain ⟨d, L⟩ := G.layH
    refine ⟨_, rfl, r, _, rfl, SqL.of (X.frame _ _ hr'), rfl, _, _, rfl, _, _, rfl, _, _, rfl, rfl, ?_⟩
    refine ⟨_, rfl, x, CG, dx, _, _, rfl, G.ins, T.clG, T.aLay, gF_lay, l, d.dx, _, rfl, L.ins, L.nCell, _, rfl, _, rfl, _, rfl, l, s.sx, s.sy, s.sz, a, b, c, rfl, L.sidesAt G.most, ?_⟩
    have st : VbwsarNeutral.step s [[8, a, b, c]] = Vbwsar.onCell s a b c fun k => (s, 0 :: Vbwsar.ints [Vbwsar.matAt s k, Vbwsar.waterAt s k, Vbwsar.lightAt s k]) := rfl
    rcases onCell_is (s := s) a b c with ⟨ev, eo⟩ | ⟨k, kl, ev, eo⟩
    · rw [ev]
      rw [eo] at st
      exact ⟨_, rfl, rfl, _, rfl, iteT ⟨_, rfl, (by show 1 ≤ sizeLine; decide), fun p hp => fin q st X hp (by decide)⟩⟩
    · rw [ev]
      rw [eo, S.em, S.ew, light_is S.lit, ← lights_is S.em kl] at st
      refine ⟨_, rfl, rfl, _, rfl, iteF ⟨_, rfl, x, CG, dx, _, _, rfl, G.ins, T.clG, T.aLay, gF_lay, _, rfl, x, CG, dx, _, _, rfl, G.ins, T.clG, T.aMat, gF_mat, l, ma, s, m, rfl, ⟨d, L⟩, G.im, G.ml, G.sz, fun H1 p s1 hp e1 => ?_⟩⟩
      have G1 := G.same s1
      exact ⟨_, rfl, x, CG, dx, _, _, rfl, G1.ins, T.clG, T.aMat, gF_mat, _, rfl, ma, _, k, _, rfl, rfl, SqL.of G1.im, vn_atI (by rw [G.ml]; exact kl),
        _, rfl, x, CG, dx, _, _, rfl, G1.ins, T.clG, T.aWat, gF_wat, _, rfl, wa, _, k, _, rfl, rfl, SqL.of G1.iw, vn_atI (by rw [G.wl]; exact kl),
        _, rfl, _, rfl, p, _, k, _, rfl, rfl, SqL.of e1, vn_atI (by rw [lights_len]; exact kl), (by show 4 ≤ sizeLine; decide), fun v hv => fin q st (X.same s1) hv (Nat.le_of_ble_eq_true rfl)⟩
theorem ok_alight {f fI fC fA fN fL f1 f2 f3 f4 f5 f6 : Addr} {fd fdI fdC fdA fdN fdL d1 d2 d3 d4 d5 d6 : FuncData} (F : Fun K "answer_light" "answer_light" sALight f fd) (T : Txt K mg CL CG) (Y : LayT K CL fI fC fA fN fL fdI fdC fdA fdN fdL) (D : LightT K mg f1 f2 f3 f4 f5 f6 d1 d2 d3 d4 d5 d6) :
    FnOk P w K mg base CX0 7 f fd ["ground", "numbers"] (spAns CL CG (fun ns => [9 :: ns]) fun ns => ns.length = 1) := by
  have GC : FnOk P w K mg base CX0 1 fC fdC ["self", "x", "y", "z"] (spCellAt CL) := ok_cell Y.FC T
  have GL : FnOk P w K mg base CX0 4 f5 d5 ["layout", "materials"] (spList CL lightsM) := ok_lights D.lights.F T D.clear D.opens D.own D.owns
  refine F.ok scALight (fun vs H Q E h => ?_) (fun cdv A outer s H vs Q E hr h => ?_)
  · obtain ⟨_, _, _, _, _, rfl, _⟩ := h
    rfl
  · have hr1 : Room 1 _ := hr.mono (by decide)
    have hr4 : Room 4 _ := hr.mono (by decide)
    refine ⟨_, pss_cons (ps_set (i := 2) scALight.nd rfl (Or.inl rfl) (pe_meth (pe_fld (pv 0) rfl) T.clL Y.mC GC hr1 Y.bC .nil pass0 (pa_cons pe_int (pa_cons pe_int (pa_cons (pe_ix ix_list (pv 1) pe_int (fun _ _ => rfl)) pa_nil)))))
      (pss_cons (ps_if (pt_cmpR op_isN (pv 2) pe_non (nomark _)) (pss_one (ps_ret (pe_lst (pa_cons (pe_un un_neg pe_int) pa_nil)))) pss_nil)
      (pss_cons (ps_set (i := 3) scALight.nd rfl (Or.inl rfl) (pe_call GL hr4 rfl D.lights.g D.lights.F.kp D.lights.b .nil pass0 (pa_cons (pe_fld (pv 0) rfl) (pa_cons (pe_fld (pv 0) rfl) pa_nil))))
      (pss_one (ps_ret (pe_op op_cat (pe_lst (pa_cons pe_int pa_nil)) (pe_slice sl_list (pv 3) (po_some (pv 2)) (po_some (pe_op op_add (pv 2) (pe_fld (pe_fld (pv 0) rfl) rfl))))))))), ?_⟩
    obtain ⟨HF, x, r, s, ns, rfl, X, hr', hn, q⟩ := h
    obtain ⟨z, rfl⟩ := vi1 hn
    obtain ⟨m, w, ⟨dx, l, ma, wa, HL, G⟩, S, fu⟩ := id X
    obtain ⟨d, L⟩ := G.layH
    refine ⟨_, rfl, x, CG, dx, _, _, rfl, G.ins, T.clG, T.aLay, gF_lay, l, d.dx, _, rfl, L.ins, L.nCell, _, rfl, r, _, 0, _, rfl, rfl, SqL.of (X.frame _ _ hr'), rfl, l, s.sx, s.sy, s.sz, 0, 0, z, rfl, L.sidesAt G.most, ?_⟩
    have st : VbwsarNeutral.step s [[9, z]] = if Vbwsar.inside z 0 ((s.sz : Int) - 1) = false then Vbwsar.no s (-1) else (s, 0 :: (List.range (s.sx * s.sy)).map fun (i : Nat) => (Vbwsar.lightAt s (z.toNat * (s.sx * s.sy) + i) : Int)) := rfl
    rw [inside_iff] at st
    by_cases c : 0 ≤ z ∧ z ≤ (s.sz : Int) - 1
    · obtain ⟨n, rfl⟩ : ∃ n : Nat, z = (n : Int) := ⟨z.toNat, by omega⟩
      have hz : n < s.sz := by omega
      have pos : 0 < s.sx ∧ 0 < s.sy := by
        rcases fu with h | h
        · omega
        · exact ⟨h.1, h.2.1⟩
      have ev : cellV s.sx s.sy s.sz 0 0 (n : Int) = .int ((n * (s.sx * s.sy) : Nat) : Int) := by
        unfold cellV
        rw [if_pos ⟨⟨by omega, by omega⟩, ⟨by omega, by omega⟩, by omega, by omega⟩, Int.add_zero, Int.add_zero]
        rw [← Int.natCast_mul, ← Int.natCast_mul, Nat.mul_assoc, Nat.mul_comm s.sy]
      rw [ev]
      rw [decide_eq_true c, if_neg (by decide), Int.toNat_natCast] at st
      have le := layer_end hz
      refine ⟨_, rfl, rfl, _, rfl, iteF ⟨_, rfl, x, CG, dx, _, _, rfl, G.ins, T.clG, T.aLay, gF_lay, _, rfl, x, CG, dx, _, _, rfl, G.ins, T.clG, T.aMat, gF_mat, l, ma, s, m, rfl, ⟨d, L⟩, G.im, G.ml, G.sz, fun H1 p s1 hp e1 => ?_⟩⟩
      have lis : ∀ k, k < Vbwsar.size s → (lightsM s m).getD k 0 = Vbwsar.lightAt s k := fun k h => by rw [lights_is S.em h, light_is S.lit]
      have ll : (lightsM s m).length = Vbwsar.size s := lights_len
      generalize lightsM s m = lt at *
      refine ⟨(by show 1 ≤ sizeLine; decide), fun u hu => ?_⟩
      generalize g2 : upd H1 u _ = H2
      obtain ⟨s2, e2⟩ := newS hu g2
      have s12 := s1.trans s2
      have G2 := G.same s12
      have L2 := L.same s12
      generalize hb : n * (s.sx * s.sy) = b at *
      generalize hc : s.sx * s.sy = cn at *
      have cv : cutV (vn lt) (some (b : Int)) (some ((b : Int) + (cn : Int))) = vn ((lt.drop b).take cn) := by
        rw [← Int.natCast_add, cut_nat (by omega) (by rw [vn_len]; omega), Nat.add_sub_cancel_left, ← List.map_drop, ← List.map_take]
      have e : ((List.range cn).map fun (i : Nat) => (Vbwsar.lightAt s (b + i) : Int)) = Vbwsar.ints ((lt.drop b).take cn) := by
        rw [part_is _ _ _ (by omega)]
        unfold Vbwsar.ints
        rw [List.map_map]
        apply List.map_congr_left
        intro i hi
        have := List.mem_range.mp hi
        show _ = ((lt.getD (b + i) 0 : Nat) : Int)
        rw [lis _ (by omega)]
      rw [e] at st
      have kl : ((lt.drop b).take cn).length ≤ 600 := by
        rw [List.length_take, List.length_drop]
        have := S.sz
        omega
      refine ⟨_, rfl, _, rfl, _, rfl, _, rfl, _, rfl, x, CG, dx, _, _, rfl, G2.ins, T.clG, T.aLay, gF_lay, l, CL, d.dx, _, _, rfl, L2.ins, T.clL, T.aSize, L2.fSize, _, _, rfl, rfl, _, rfl, p, _, rfl, SqL.of (s2 _ _ e1), fun y hy => ?_⟩
      rw [hc, cv]
      generalize g3 : upd H2 y _ = H3
      obtain ⟨s3, e3⟩ := newS hy g3
      generalize (lt.drop b).take cn = ks at *
      refine ⟨u, y, _, _, rfl, rfl, s3 _ _ e2, e3, ?_, fun v hv => ?_⟩
      · rw [vn_len]
        have := small5000 (n := ks.length + 1) (by omega)
        show 1 + ks.length ≤ sizeLine
        omega
      · rw [cat0]
        refine fin q st (X.same (s12.trans s3)) hv ?_
        unfold Vbwsar.ints
        rw [List.length_cons, List.length_map]
        omega
    · have ev : cellV s.sx s.sy s.sz 0 0 z = .non := if_neg (fun h => c (by omega))
      rw [ev]
      rw [decide_eq_false c, if_pos rfl] at st
      exact ⟨_, rfl, rfl, _, rfl, iteT ⟨_, rfl, (by show 1 ≤ sizeLine; decide), fun p hp => fin q st X hp (by decide)⟩⟩
theorem ok_adeep {f fI fC fA fN fL : Addr} {fd fdI fdC fdA fdN fdL : FuncData} (F : Fun K "answer_deep" "answer_deep" sADeep f fd) (T : Txt K mg CL CG) (Y : LayT K CL fI fC fA fN fL fdI fdC fdA fdN fdL) :
    FnOk P w K mg base CX0 7 f fd ["ground", "numbers"] (spAns CL CG (fun ns => [14 :: ns]) fun ns => ns.length = 2) := by
  have GC : FnOk P w K mg base CX0 1 fC fdC ["self", "x", "y", "z"] (spCellAt CL) := ok_cell Y.FC T
  refine F.ok scADeep (fun vs H Q E h => ?_) (fun cdv A outer s H vs Q E hr h => ?_)
  · obtain ⟨_, _, _, _, _, rfl, _⟩ := h
    rfl
  · have hr1 : Room 1 _ := hr.mono (by decide)
    refine ⟨_, pss_cons (ps_asg (pv 1) (pg_unl rfl (pgs_cons (pg_name (i := 2) scADeep.nd rfl (Or.inl rfl)) (pgs_cons (pg_name (i := 3) scADeep.nd rfl (Or.inl rfl)) pgs_nil))))
      (pss_cons (ps_set (i := 4) scADeep.nd rfl (Or.inl rfl) (pe_meth (pe_fld (pv 0) rfl) T.clL Y.mC GC hr1 Y.bC .nil pass0 (pa_cons (pv 2) (pa_cons (pv 3) (pa_cons pe_int pa_nil)))))
      (pss_cons (ps_if (pt_cmpR op_isN (pv 4) pe_non (nomark _)) (pss_one (ps_ret (pe_lst (pa_cons (pe_un un_neg pe_int) pa_nil)))) pss_nil)
      (pss_one (ps_ret (pe_op op_cat (pe_lst (pa_cons pe_int pa_nil)) (pe_stepL (pe_fld (pv 0) rfl) (pv 4) (pe_fld (pe_fld (pv 0) rfl) rfl))))))), ?_⟩
    obtain ⟨HF, x, r, s, ns, rfl, X, hr', hn, q⟩ := h
    obtain ⟨a, b, rfl⟩ := vi2 hn
    obtain ⟨m, w, ⟨dx, l, ma, wa, HL, G⟩, S, fu⟩ := id X
    obtain ⟨d, L⟩ := G.layH
    refine ⟨_, rfl, r, _, rfl, SqL.of (X.frame _ _ hr'), rfl, _, _, rfl, _, _, rfl, rfl, ?_⟩
    refine ⟨_, rfl, x, CG, dx, _, _, rfl, G.ins, T.clG, T.aLay, gF_lay, l, d.dx, _, rfl, L.ins, L.nCell, _, rfl, _, rfl, l, s.sx, s.sy, s.sz, a, b, 0, rfl, L.sidesAt G.most, ?_⟩
    have st : VbwsarNeutral.step s [[14, a, b]] = if Vbwsar.inside a 0 ((s.sx : Int) - 1) = false ∨ Vbwsar.inside b 0 ((s.sy : Int) - 1) = false then Vbwsar.no s (-1) else (s, 0 :: (List.range s.sz).map fun (z : Nat) => (Vbwsar.waterAt s (Vbwsar.keyOf s ⟨a.toNat, b.toNat, z⟩) : Int)) := rfl
    rw [inside_iff, inside_iff] at st
    by_cases c : (0 ≤ a ∧ a ≤ (s.sx : Int) - 1) ∧ 0 ≤ b ∧ b ≤ (s.sy : Int) - 1
    · obtain ⟨i, rfl⟩ : ∃ n : Nat, a = (n : Int) := ⟨a.toNat, by omega⟩
      obtain ⟨j, rfl⟩ : ∃ n : Nat, b = (n : Int) := ⟨b.toNat, by omega⟩
      have hi : i < s.sx := by omega
      have hj : j < s.sy := by omega
      have pos : 0 < s.sz := by
        rcases fu with h | h
        · omega
        · exact h.2.2
      have ev : cellV s.sx s.sy s.sz (i : Int) (j : Int) 0 = .int ((j * s.sx + i : Nat) : Int) := by
        unfold cellV
        rw [if_pos ⟨⟨by omega, by omega⟩, ⟨by omega, by omega⟩, by omega, by omega⟩, Int.zero_mul, Int.zero_add]
        rw [← Int.natCast_mul, ← Int.natCast_add]
      rw [ev]
      rw [decide_eq_true c.1, decide_eq_true c.2, if_neg (by simp), Int.toNat_natCast, Int.toNat_natCast] at st
      refine ⟨_, rfl, rfl, _, rfl, iteF ⟨(by show 1 ≤ sizeLine; decide), fun u hu => ?_⟩⟩
      generalize g2 : upd H u _ = H2
      obtain ⟨s2, e2⟩ := newS hu g2
      have G2 := G.same s2
      have L2 := L.same s2
      have ilt : j * s.sx + i < s.sx * s.sy := by
        have : (j + 1) * s.sx ≤ s.sy * s.sx := Nat.mul_le_mul_right _ hj
        rw [Nat.add_mul, Nat.one_mul, Nat.mul_comm s.sy] at this
        omega
      have hl : (vn w).length = s.sx * s.sy * s.sz := by
        rw [vn_len, S.wl]
        unfold Vbwsar.size
        rw [Nat.mul_assoc]
      have el : ((List.range s.sz).map fun k => j * s.sx + i + s.sx * s.sy * k).filterMap ((vn w)[·]?) = vn ((List.range s.sz).map fun z => w.getD (Vbwsar.keyOf s ⟨i, j, z⟩) 0) := by
        rw [List.filterMap_map]
        show _ = ((List.range s.sz).map fun z => w.getD (Vbwsar.keyOf s ⟨i, j, z⟩) 0).map fun (n : Nat) => V.int (n : Int)
        rw [List.map_map, ← List.filterMap_eq_map]
        refine fm_congr _ fun z hz => ?_
        have hz := List.mem_range.mp hz
        have ek : j * s.sx + i + s.sx * s.sy * z = Vbwsar.keyOf s ⟨i, j, z⟩ := by
          show _ = (z * s.sy + j) * s.sx + i
          rw [Nat.add_mul, Nat.mul_comm s.sx s.sy, Nat.mul_comm _ z, ← Nat.mul_assoc]
          omega
        show (vn w)[j * s.sx + i + s.sx * s.sy * z]? = some (V.int ((w.getD (Vbwsar.keyOf s ⟨i, j, z⟩) 0 : Nat) : Int))
        rw [ek]
        exact vn_at (by rw [S.wl]; exact GT.key_lt hi hj hz)
      have e : ((List.range s.sz).map fun (z : Nat) => (Vbwsar.waterAt s (Vbwsar.keyOf s ⟨i, j, z⟩) : Int)) = Vbwsar.ints ((List.range s.sz).map fun z => w.getD (Vbwsar.keyOf s ⟨i, j, z⟩) 0) := by
        unfold Vbwsar.ints
        rw [List.map_map]
        apply List.map_congr_left
        intro z _
        rw [S.ew]
        rfl
      rw [e] at st
      have kl : ((List.range s.sz).map fun z => w.getD (Vbwsar.keyOf s ⟨i, j, z⟩) 0).length ≤ 12 := by
        rw [List.length_map, List.length_range]
        exact G.most.2.2
      refine ⟨_, rfl, x, CG, dx, _, _, rfl, G2.ins, T.clG, T.aWat, gF_wat, _, rfl, _, rfl, x, CG, dx, _, _, rfl, G2.ins, T.clG, T.aLay, gF_lay, l, CL, d.dx, _, _, rfl, L2.ins, T.clL, T.aSize, L2.fSize, wa, vn w, j * s.sx + i, s.sx * s.sy, s.sz, rfl, rfl, rfl, SqL.of G2.iw, ilt, pos, hl, fun y hy => ?_⟩
      rw [el]
      generalize g3 : upd H2 y _ = H3
      obtain ⟨s3, e3⟩ := newS hy g3
      generalize ((List.range s.sz).map fun z => w.getD (Vbwsar.keyOf s ⟨i, j, z⟩) 0) = ks at *
      refine ⟨u, y, _, _, rfl, rfl, s3 _ _ e2, e3, ?_, fun v hv => ?_⟩
      · rw [vn_len]
        have := small5000 (n := ks.length + 1) (by omega)
        show 1 + ks.length ≤ sizeLine
        omega
      · rw [cat0]
        refine fin q st (X.same (s2.trans s3)) hv ?_
        unfold Vbwsar.ints
        rw [List.length_cons, List.length_map]
        omega
    · have ev : cellV s.sx s.sy s.sz a b 0 = .non := if_neg (fun h => c (by omega))
      rw [ev]
      rw [if_pos (by by_cases z : 0 ≤ a ∧ a ≤ (s.sx : Int) - 1; exact .inr (decide_eq_false fun y => c ⟨z, y⟩); exact .inl (decide_eq_false z))] at st
      exact ⟨_, rfl, rfl, _, rfl, iteT ⟨_, rfl, (by show 1 ≤ sizeLine; decide), fun p hp => fin q st X hp (by decide)⟩⟩
end
end Gr
set_option Elab.async false
set_option linter.all false
set_option maxRecDepth 100000
set_option maxHeartbeats 4000000
namespace Gr
open PySem PySem.Spec PyProof.Rows L2
open Vbwsar (Ground)
/-! ## counted_places -/
abbrev sCount : Stmt := top 62
abbrev NCount : List Str := ["layout", "cells", "told", "cell"]
theorem scCount : FnScope NCount ["layout", "cells"] (defScope sCount) := ⟨rfl, rfl, rfl, by decide +kernel, rfl, by decide +kernel, by decide +kernel⟩
def spCount (CL : Addr) : Sp := fun vs H Q _ => ∃ (l a : Addr) (g : Ground) (ks : List Nat), vs = [.ref l, .ref a] ∧ Lay CL H l g ∧ IL H a ks ∧ (∀ k ∈ ks, k < Vbwsar.size g) ∧ ks.length ≤ 600 ∧ Vbwsar.size g ≤ 600 ∧
  ∀ H' p, Same H H' → H p = none → IL H' p (ks.length :: ks.flatMap (rowN g)) → Q (.ref p) H'
abbrev sATrail : Stmt := top 63
abbrev NATrail : List Str := ["ground", "numbers", "x", "y", "z", "cell"]
theorem scATrail : FnScope NATrail ["ground", "numbers"] (defScope sATrail) := ⟨rfl, rfl, rfl, by decide +kernel, rfl, by decide +kernel, by decide +kernel⟩
abbrev sACount : Stmt := top 64
abbrev NACount : List Str := ["ground", "numbers", "amounts", "material"]
theorem scACount : FnScope NACount ["ground", "numbers"] (defScope sACount) := ⟨rfl, rfl, rfl, by decide +kernel, rfl, by decide +kernel, by decide +kernel⟩
abbrev sAHeld : Stmt := top 65
abbrev NAHeld : List Str := ["ground", "numbers", "loose", "wood", "cell"]
theorem scAHeld : FnScope NAHeld ["ground", "numbers"] (defScope sAHeld) := ⟨rfl, rfl, rfl, by decide +kernel, rfl, by decide +kernel, by decide +kernel⟩
abbrev sADark : Stmt := top 66
abbrev NADark : List Str := ["ground", "numbers", "most", "light", "air", "cell", "material"]
theorem scADark : FnScope NADark ["ground", "numbers"] (defScope sADark) := ⟨rfl, rfl, rfl, by decide +kernel, rfl, by decide +kernel, by decide +kernel⟩
theorem rows_len {g : Ground} : ∀ ks : List Nat, (ks.flatMap (rowN g)).length = 3 * ks.length
  | [] => rfl
  | k :: ks => by
    rw [List.flatMap_cons, List.length_append, rows_len ks, List.length_cons]
    show 3 + _ = _
    omega
theorem rows_is {g : Ground} (ks : List Nat) : ks.flatMap (Vbwsar.rowOf g) = Vbwsar.ints (ks.flatMap (rowN g)) := by
  unfold Vbwsar.ints
  rw [List.map_flatMap]
  rfl
theorem path_lt {g : Ground} : ∀ (n k : Nat), k < Vbwsar.size g → (∀ j ∈ pathM g (GT.lightOf g) n k, j < Vbwsar.size g) ∧ (pathM g (GT.lightOf g) n k).length ≤ n + 1
  | 0, k, h => ⟨fun j q => by
    have : j = k := by simpa [pathM] using q
    omega, Nat.le_refl _⟩
  | n + 1, k, h => by
    unfold pathM
    cases e : nextM g (GT.lightOf g) k with
    | none =>
      refine ⟨fun j q => ?_, ?_⟩
      · have : j = k := by simpa using q
        omega
      · show 1 ≤ n + 1 + 1
        omega
    | some j =>
      have ih := path_lt n j (GT.around_lt h (next_lit e).2)
      refine ⟨fun i q => ?_, ?_⟩
      · rcases List.mem_cons.mp q with q | q
        · omega
        · exact ih.1 i q
      · show (pathM g (GT.lightOf g) n j).length + 1 ≤ n + 1 + 1
        omega
theorem trailM_lt {g : Ground} {k : Nat} (h : k < Vbwsar.size g) : (∀ j ∈ trailM g k, j < Vbwsar.size g) ∧ (trailM g k).length ≤ 16 := by
  unfold trailM
  split
  · exact ⟨fun j q => (nomatch q), Nat.zero_le _⟩
  · exact path_lt 15 k h
section
variable {P : Program} {w : World} {K : PySem.W.Frag} {mg : Str → Option Value} {base : Heap} {CL CG : Addr}
theorem ok_count {f fI fC fA fN fL : Addr} {fd fdI fdC fdA fdN fdL : FuncData} (F : Fun K "counted_places" "counted_places" sCount f fd) (T : Txt K mg CL CG) (Y : LayT K CL fI fC fA fN fL fdI fdC fdA fdN fdL) : FnOk P w K mg base CX0 2 f fd ["layout", "cells"] (spCount CL) := by
  have GP : FnOk P w K mg base CX0 1 fL fdL ["self", "cell"] (spPlaceOf CL) := ok_placeOf Y.FP T
  refine F.ok scCount (fun vs H Q E h => ?_) (fun cdv A outer s H vs Q E hr h => ?_)
  · obtain ⟨_, _, _, _, rfl, _⟩ := h
    rfl
  · refine ⟨_, pss_cons (ps_set (i := 2) scCount.nd rfl (Or.inl rfl) (pe_lst (pa_cons (pe_callB call_len_seq (by rfl) T.nlen PySem.boot_len (pa_cons (pv 1) pa_nil)) pa_nil)))
      (pss_cons (ps_for PassesOwn.never rfl (pi_list (pv 1)) (pg_name (i := 3) scCount.nd rfl (Or.inl rfl))
        (pss_one (ps_expr (pe_bm PySem.F.plainAttrs_list PySem.F.slot_list_extend PySem.F.type_list_extend mt_extend (pv 2) (pa_cons (pe_meth (pv 0) T.clL Y.mP GP hr Y.bP .nil pass0 (pa_cons (pv 3) pa_nil)) pa_nil)))))
      (pss_one (ps_ret (pv 2)))), ?_⟩
    obtain ⟨l, a, g, ks, rfl, L, ha, kl, kn, sz, q⟩ := h
    refine ⟨_, rfl, a, _, rfl, .inl (SqL.of ha), (by show 1 ≤ sizeLine; decide), fun p hp => ?_⟩
    generalize g1 : upd H p _ = H1
    obtain ⟨s1, e1⟩ := newS hp g1
    refine ⟨_, rfl, a, rfl, ⟨_, SqL.of (s1 _ _ ha)⟩, for_list (K := K) (a := a) (xs := vn ks) (fun i σ H' => ∃ c, σ = [some (.ref l), some (.ref a), some (.ref p), c] ∧ Same H H' ∧ IL H' p (ks.length :: (ks.take i).flatMap (rowN g)))
      ⟨_, rfl, s1, ?_⟩ (fun i σ H' _ ⟨_, _, s, _⟩ => SqL.of (s _ _ ha)) ?_ ?_⟩
    · rw [vn_len] at e1
      exact e1
    · rintro i x σ H2 hi ⟨c, rfl, s2, e2⟩
      obtain ⟨k, hk, rfl⟩ := at_vn hi
      obtain ⟨d, L2⟩ := L.same s2
      refine ⟨_, rfl, .inl ⟨rfl, _, SqL.of e2⟩, _, rfl, l, d.dx, _, rfl, L2.ins, L2.nPlace, _, rfl, l, g, k, rfl, ⟨d, L2⟩, kl k (List.mem_of_getElem? hk), sz, fun H3 u s3 hu e3 => ?_⟩
      have lt := List.getElem?_eq_some_iff.mp hk
      refine ⟨p, u, _, _, rfl, rfl, s3 _ _ e2, e3, ?_, ⟨_, rfl, same_upd (s2.trans s3) hp, ?_⟩⟩
      · rw [vn_len, vn_len, List.length_cons, rows_len, List.length_take]
        have := small5000 (n := 3 * min i ks.length + 1 + 3) (by omega)
        show 3 * min i ks.length + 1 + 3 ≤ sizeLine
        omega
      · unfold IL
        rw [upd_same, take_more hk, List.flatMap_append, ← List.map_append, List.cons_append]
        congr 4
    · rintro σ H2 ⟨c, rfl, s2, e2⟩
      rw [vn_len, List.take_length] at e2
      exact ⟨_, rfl, q H2 p s2 hp e2⟩
theorem ok_atrail {f fI fC fA fN fL f0 f1 f2 f3 f4 f5 f6 : Addr} {fd fdI fdC fdA fdN fdL d0 d1 d2 d3 d4 d5 d6 : FuncData} (F : Fun K "answer_trail" "answer_trail" sATrail f fd) (T : Txt K mg CL CG) (Y : LayT K CL fI fC fA fN fL fdI fdC fdA fdN fdL) (D : LightT K mg f1 f2 f3 f4 f5 f6 d1 d2 d3 d4 d5 d6)
    (DP : DefN K mg "counted_places" sCount ["layout", "cells"] f0 d0) : FnOk P w K mg base CX0 7 f fd ["ground", "numbers"] (spAns CL CG (fun ns => [10 :: ns]) fun ns => ns.length = 3) := by
  have GC : FnOk P w K mg base CX0 1 fC fdC ["self", "x", "y", "z"] (spCellAt CL) := ok_cell Y.FC T
  have GT' : FnOk P w K mg base CX0 5 f6 d6 ["layout", "materials", "cell"] (spTrail CL) := ok_trail D.trail.F T D.clear D.opens D.own D.owns D.lights
  have GP : FnOk P w K mg base CX0 2 f0 d0 ["layout", "cells"] (spCount CL) := ok_count DP.F T Y
  refine F.ok scATrail (fun vs H Q E h => ?_) (fun cdv A outer s H vs Q E hr h => ?_)
  · obtain ⟨_, _, _, _, _, rfl, _⟩ := h
    rfl
  · have hr1 : Room 1 _ := hr.mono (by decide)
    have hr2 : Room 2 _ := hr.mono (by decide)
    have hr5 : Room 5 _ := hr.mono (by decide)
    refine ⟨_, pss_cons (ps_asg (pv 1) (pg_unl rfl (pgs_cons (pg_name (i := 2) scATrail.nd rfl (Or.inl rfl)) (pgs_cons (pg_name (i := 3) scATrail.nd rfl (Or.inl rfl)) (pgs_cons (pg_name (i := 4) scATrail.nd rfl (Or.inl rfl)) pgs_nil)))))
      (pss_cons (ps_set (i := 5) scATrail.nd rfl (Or.inl rfl) (pe_meth (pe_fld (pv 0) rfl) T.clL Y.mC GC hr1 Y.bC .nil pass0 (pa_cons (pv 2) (pa_cons (pv 3) (pa_cons (pv 4) pa_nil)))))
      (pss_cons (ps_if (pt_cmpR op_isN (pv 5) pe_non (nomark _)) (pss_one (ps_ret (pe_lst (pa_cons (pe_un un_neg pe_int) pa_nil)))) pss_nil)
      (pss_one (ps_ret (pe_op op_cat (pe_lst (pa_cons pe_int pa_nil)) (pe_call GP hr2 rfl DP.g DP.F.kp DP.b .nil pass0 (pa_cons (pe_fld (pv 0) rfl) (pa_cons (pe_call GT' hr5 rfl D.trail.g D.trail.F.kp D.trail.b .nil pass0 (pa_cons (pe_fld (pv 0) rfl) (pa_cons (pe_fld (pv 0) rfl) (pa_cons (pv 5) pa_nil)))) pa_nil)))))))), ?_⟩
    obtain ⟨HF, x, r, s, ns, rfl, X, hr', hn, q⟩ := h
    obtain ⟨a, b, c, rfl⟩ := vi3 hn
    obtain ⟨m, w, ⟨dx, l, ma, wa, HL, G⟩, S, fu⟩ := id X
    obtain ⟨d, L⟩ := G.layH
    refine ⟨_, rfl, r, _, rfl, SqL.of (X.frame _ _ hr'), rfl, _, _, rfl, _, _, rfl, _, _, rfl, rfl, ?_⟩
    refine ⟨_, rfl, x, CG, dx, _, _, rfl, G.ins, T.clG, T.aLay, gF_lay, l, d.dx, _, rfl, L.ins, L.nCell, _, rfl, _, rfl, _, rfl, l, s.sx, s.sy, s.sz, a, b, c, rfl, L.sidesAt G.most, ?_⟩
    have st : VbwsarNeutral.step s [[10, a, b, c]] = Vbwsar.onCell s a b c fun k => (s, 0 :: ((Vbwsar.trail s Vbwsar.SUN k).length : Int) :: (Vbwsar.trail s Vbwsar.SUN k).flatMap (Vbwsar.rowOf s)) := rfl
    rcases onCell_is (s := s) a b c with ⟨ev, eo⟩ | ⟨k, kl, ev, eo⟩
    · rw [ev]
      rw [eo] at st
      exact ⟨_, rfl, rfl, _, rfl, iteT ⟨_, rfl, (by show 1 ≤ sizeLine; decide), fun p hp => fin q st X hp (by decide)⟩⟩
    · rw [ev]
      have et : Vbwsar.trail s Vbwsar.SUN k = trailM s k := by
        unfold trailM
        by_cases c : GT.lightOf s k = 0
        · rw [if_pos c]
          exact trail_dark S.lit (n := 14) c
        · rw [if_neg c]
          exact trail_is S.lit 15 k c
      rw [eo, et, rows_is] at st
      have tl := trailM_lt kl
      refine ⟨_, rfl, rfl, _, rfl, iteF ⟨(by show 1 ≤ sizeLine; decide), fun u hu => ?_⟩⟩
      generalize g2 : upd H u _ = H2
      obtain ⟨s2, e2⟩ := newS hu g2
      have G2 := G.same s2
      have L2 := L.same s2
      refine ⟨_, rfl, x, CG, dx, _, _, rfl, G2.ins, T.clG, T.aLay, gF_lay, _, rfl, x, CG, dx, _, _, rfl, G2.ins, T.clG, T.aLay, gF_lay, _, rfl, x, CG, dx, _, _, rfl, G2.ins, T.clG, T.aMat, gF_mat, _, rfl, l, ma, s, m, k, rfl, ⟨d, L2⟩, G2.im, G.ml, G.sz, kl, S.em, fun H3 p s3 hp e3 => ?_⟩
      generalize trailM s k = ks at *
      refine ⟨l, p, s, ks, rfl, ⟨d, L2.same s3⟩, e3, tl.1, by omega, G.sz, fun H4 y s4 hy e4 => ?_⟩
      have kn : (ks.flatMap (rowN s)).length ≤ 1800 := by
        rw [rows_len]
        omega
      refine ⟨u, y, _, _, rfl, rfl, s4 _ _ (s3 _ _ e2), e4, ?_, fun v hv => ?_⟩
      · rw [vn_len, List.length_cons]
        have := small5000 (n := (ks.flatMap (rowN s)).length + 1 + 1) (by omega)
        show 1 + ((ks.flatMap (rowN s)).length + 1) ≤ sizeLine
        omega
      · rw [cat0]
        refine fin q st (X.same (s2.trans (s3.trans s4))) hv ?_
        unfold Vbwsar.ints
        rw [List.length_cons, List.length_map, List.length_cons]
        omega
end
end Gr
set_option Elab.async false
set_option linter.all false
set_option maxRecDepth 100000
set_option maxHeartbeats 4000000
namespace Gr
open PySem PySem.Spec PyProof.Rows L2
open Vbwsar (Ground)
/-- o.f in a comprehension -/
theorem pe_fldK {X : Cx} {K : PySem.W.Frag} {e : Expr} {f : Str} {pos : Pos} {ta : TE} (hK : X.K = K) (he : PE X e ta) (hb : attributeBase e f X.env (eval e X.env) = eval e X.env) : PE X (.Attribute e f pos) (tFld K ta f) := by
  subst hK
  exact pe_fld he hb
/-- xs.count(n) in a comprehension -/
theorem pe_cntK {X : Cx} {K : PySem.W.Frag} {o e : Expr} {apos cpos : Pos} {to : TE} {t : TA} (hK : X.K = K) (ho : PE X o to) (ha : PA X [e] t)
    (hbase : attributeBase o "count" X.env (eval o X.env) = eval o X.env := by rfl)
    (hfew : ((backTo cpos (starEach [e] X.env)).all (fun x => !x.1) && (backToKw cpos (keywordEach [] X.env)).all (fun x => x.1.isSome)
      && decide ([e].length + ([] : List Keyword).length + (if ([] : List Keyword).isEmpty then 0 else 1) < 30)) = true := by rfl)
    (hline : (apos.endLine == cpos.line) = true := by rfl) (hs : starEach [e] X.env = (false, eval e X.env) :: starEach [] X.env := by rfl) (hplain : (backTo cpos (starEach [] X.env)).any (·.1) = false := by rfl) :
    PE X (.Call (.Attribute o "count" apos) [e] [] cpos) (tBM K "list" (rCntI K) to t) := by
  subst hK
  exact pe_bm PySem.F.plainAttrs_list PySem.F.slot_list_count PySem.F.type_list_count mt_lcount ho ha hbase hfew hline hs hplain
theorem ints_count (l : List Nat) (v : Nat) : (Vbwsar.ints l).count (v : Int) = (l.filter fun x => x == v).length := by
  induction l with
  | nil => rfl
  | cons a l ih =>
    show ((a : Int) :: Vbwsar.ints l).count (v : Int) = _
    rw [List.count_cons, ih, List.filter_cons]
    by_cases e : a = v
    · subst e
      simp
    · have e1 : ((a : Int) == (v : Int)) = false := by
        rw [beq_eq_false_iff_ne]
        omega
      have e2 : (a == v) = false := beq_eq_false_iff_ne.mpr e
      rw [e1, e2]
      rfl
theorem ints_sum (l : List Nat) : (Vbwsar.ints l).sum = (Vbwsar.sum l : Int) := by
  have h : ∀ (l : List Nat) (a : Nat), ((l.foldl (fun a b => a + b) a : Nat) : Int) = (a : Int) + (Vbwsar.ints l).sum := by
    intro l
    induction l with
    | nil =>
      intro a
      show (a : Int) = (a : Int) + 0
      omega
    | cons b l ih =>
      intro a
      rw [List.foldl_cons, ih]
      show _ = (a : Int) + ((b : Int) :: Vbwsar.ints l).sum
      rw [List.sum_cons]
      omega
  have := h l 0
  unfold Vbwsar.sum
  rw [this]
  omega
theorem hang_filter {g : Ground} {m : List Nat} (n : Nat) : ((List.range n).filter (looseM g m)).filter (fun k => m.getD k 0 == 5) = (List.range n).filter (hangM g m) := by
  rw [List.filter_filter]
  apply List.filter_congr
  intro k _
  unfold looseM hangM
  cases c : m.getD k 0 == 5 with
  | false => simp
  | true =>
    rw [beq_iff_eq.mp c]
    simp
theorem int_le (a : Nat) (v : Int) : True := trivial
section
variable {P : Program} {w : World} {K : PySem.W.Frag} {mg : Str → Option Value} {base : Heap} {CL CG : Addr}
theorem ok_acount {f : Addr} {fd : FuncData} (F : Fun K "answer_count" "answer_count" sACount f fd) (T : Txt K mg CL CG) : FnOk P w K mg base CX0 7 f fd ["ground", "numbers"] (spAns CL CG (fun ns => [11 :: ns]) fun ns => ns.length = 0) := by
  refine F.ok scACount (fun vs H Q E h => ?_) (fun cdv A outer s H vs Q E hr h => ?_)
  · obtain ⟨_, _, _, _, _, rfl, _⟩ := h
    rfl
  · refine ⟨_, pss_cons (ps_setLc (i := 2) (own := [("material", 3)]) (g := gName 3) (tt := tYes) rfl scACount.nd rfl rfl (sw_true rfl rfl rfl (by decide +kernel))
        (pi_range2 (by rfl) T.nrange (pa_cons (pe_gi T.gAIR) (pa_cons (pe_op op_add (pe_gi T.gWOOD) pe_int) pa_nil))) (blkOk_by (N := NACount) (sc := defScope sACount) (by decide +kernel))
        (fun _ _ _ _ _ => pg_name (i := 3) scACount.nd rfl (Or.inl rfl)) (fun _ _ _ _ _ => pts_nil)
        (fun _ _ _ _ _ => pe_cntK (K := K) (by rfl) (pe_fldK (K := K) (by rfl) (pv 0) (by rfl)) (pa_cons (pv 3) pa_nil)))
      (pss_one (ps_ret (pe_op op_cat (pe_lst (pa_cons pe_int (pa_cons (pe_fld (pv 0) rfl) (pa_cons (pe_callB (cr_sum rfl) (by rfl) T.nsum (by decide +kernel) (pa_cons (pe_fld (pv 0) rfl) pa_nil)) pa_nil)))) (pv 2)))), ?_⟩
    obtain ⟨HF, x, r, s, ns, rfl, X, hr', hn, q⟩ := h
    obtain rfl := vi0 hn
    obtain ⟨m, w, ⟨dx, l, ma, wa, HL, G⟩, S, fu⟩ := id X
    have st : VbwsarNeutral.step s [[11]] = (s, 0 :: Vbwsar.ints ([s.ticks, Vbwsar.allWater s] ++ (List.range 6).map (Vbwsar.howMany s))) := rfl
    rw [water_is S.toHolds, show Vbwsar.howMany s = fun v => (m.filter fun x => x == v).length from funext fun v => many_is S.toHolds v] at st
    refine ⟨_, _, rfl, rfl, _, _, rfl, ⟨by decide, by decide, by decide, by decide⟩, fun D hD => ?_⟩
    refine lc_pureR (n := 6) (fun v => V.int (((m.filter fun x => x == v).length : Nat) : Int)) (fun _ => true) hD (small1000 (by decide)) (fun x => rfl) (fun k hk H2 s2 Q h => h H2 (Same.refl H2)) (fun k hk _ H2 s2 Q h => ?_) (fun H2 s2 e2 => ?_)
    · have G2 := G.same s2
      refine ⟨_, rfl, x, CG, dx, _, _, rfl, G2.ins, T.clG, T.aMat, gF_mat, .inl ⟨rfl, _, SqL.of G2.im⟩, _, rfl, ma, Vbwsar.ints m, (k : Int), rfl, rfl, ?_, ?_⟩
      · have e := vi_ints m
        show SqL K H2 ma (vi (Vbwsar.ints m))
        rw [e]
        exact SqL.of G2.im
      · rw [ints_count]
        exact h H2 (Same.refl H2)
    · have G2 := G.same s2
      refine ⟨_, rfl, x, CG, dx, _, _, rfl, G2.ins, T.clG, T.aTic, gF_tic, _, rfl, x, CG, dx, _, _, rfl, G2.ins, T.clG, T.aWat, gF_wat, wa, Vbwsar.ints w, rfl, ?_, (by show 3 ≤ sizeLine; decide), fun p hp => ?_⟩
      · show SqL K H2 wa (vi (Vbwsar.ints w))
        rw [vi_ints w]
        exact SqL.of G2.iw
      generalize g3 : upd H2 p _ = H3
      obtain ⟨s3, e3⟩ := newS hp g3
      rw [ints_sum] at e3
      refine ⟨_, rfl, p, D, _, _, rfl, rfl, e3, s3 _ _ e2, (by show 9 ≤ sizeLine; decide), fun v hv => ?_⟩
      refine fin (l := 0 :: Vbwsar.ints ([s.ticks, Vbwsar.sum w] ++ (List.range 6).map fun v => (m.filter fun x => x == v).length)) q st (X.same (s2.trans s3)) hv (Nat.le_of_ble_eq_true rfl)
theorem ok_aheld {f fI fC fA fN fL fP f1 f2 f3 f4 f5 f6 f7 f8 f9 f0 : Addr} {fd fdI fdC fdA fdN fdL fdP d1 d2 d3 d4 d5 d6 d7 d8 d9 d0 : FuncData} (F : Fun K "answer_held" "answer_held" sAHeld f fd) (T : Txt K mg CL CG) (Y : LayT K CL fI fC fA fN fL fdI fdC fdA fdN fdL)
    (D : TickT K mg f1 f2 f3 f4 f5 f6 f7 f8 f9 f0 d1 d2 d3 d4 d5 d6 d7 d8 d9 d0) (DP : DefN K mg "counted_places" sCount ["layout", "cells"] fP fdP) : FnOk P w K mg base CX0 7 f fd ["ground", "numbers"] (spAns CL CG (fun ns => [12 :: ns]) fun ns => ns.length = 0) := by
  have GP : FnOk P w K mg base CX0 2 fP fdP ["layout", "cells"] (spCount CL) := ok_count DP.F T Y
  have GL : FnOk P w K mg base CX0 3 f3 d3 ["layout", "materials"] (spLoose CL) := D.okLoose T
  refine F.ok scAHeld (fun vs H Q E h => ?_) (fun cdv A outer s H vs Q E hr h => ?_)
  · obtain ⟨_, _, _, _, _, rfl, _⟩ := h
    rfl
  · have hr2 : Room 2 _ := hr.mono (by decide)
    have hr3 : Room 3 _ := hr.mono (by decide)
    refine ⟨_, pss_cons (ps_set (i := 2) scAHeld.nd rfl (Or.inl rfl) (pe_call GL hr3 rfl D.loose.g D.loose.F.kp D.loose.b .nil pass0 (pa_cons (pe_fld (pv 0) rfl) (pa_cons (pe_fld (pv 0) rfl) pa_nil))))
      (pss_cons (ps_setLc (i := 3) (own := [("cell", 4)]) (g := gName 4) rfl scAHeld.nd rfl rfl (sw_true rfl rfl rfl (by decide +kernel))
        (pi_list (pv 2)) (blkOk_by (N := NAHeld) (sc := defScope sAHeld) (by decide +kernel))
        (fun _ _ _ _ _ => pg_name (i := 4) scAHeld.nd rfl (Or.inl rfl))
        (fun _ _ _ _ _ => pts_one (pt_cmpR op_eq (pe_ix (r := rIxL K) ix_list (pe_fldK (K := K) (by rfl) (pv 0) (by rfl)) (pv 4) (fun _ _ => rfl)) (pe_gi T.gWOOD) (nomark _)))
        (fun _ _ _ _ _ => pv 4))
      (pss_one (ps_ret (pe_op op_cat (pe_lst (pa_cons pe_int pa_nil)) (pe_call GP hr2 rfl DP.g DP.F.kp DP.b .nil pass0 (pa_cons (pe_fld (pv 0) rfl) (pa_cons (pv 3) pa_nil))))))), ?_⟩
    obtain ⟨HF, x, r, s, ns, rfl, X, hr', hn, q⟩ := h
    obtain rfl := vi0 hn
    obtain ⟨m, w, ⟨dx, l, ma, wa, HL, G⟩, S, fu⟩ := id X
    have L := G.layH
    have st : VbwsarNeutral.step s [[12]] = (s, 0 :: ((Vbwsar.howMany s Vbwsar.WOOD - (Vbwsar.held s Vbwsar.HANG).length : Nat) : Int) :: ((Vbwsar.keys s).filter fun k => Vbwsar.loose s (Vbwsar.held s Vbwsar.HANG) k && Vbwsar.matAt s k == Vbwsar.WOOD).flatMap (Vbwsar.rowOf s)) := rfl
    rw [hang_count S.toHolds, hang_list S.toHolds, rows_is] at st
    refine ⟨_, rfl, x, CG, dx, _, _, rfl, G.ins, T.clG, T.aLay, gF_lay, _, rfl, x, CG, dx, _, _, rfl, G.ins, T.clG, T.aMat, gF_mat, l, ma, s, m, rfl, L, G.im, G.ml, G.sz, fun H1 p s1 hp e1 => ?_⟩
    have hf := hang_filter (g := s) (m := m) (Vbwsar.size s)
    have hl : ((List.range (Vbwsar.size s)).filter (looseM s m)).length ≤ 600 := by
      refine Nat.le_trans (List.length_filter_le _ _) ?_
      rw [List.length_range]
      exact G.sz
    have hlt : ∀ k ∈ (List.range (Vbwsar.size s)).filter (looseM s m), k < Vbwsar.size s := fun k hk => List.mem_range.mp (List.mem_filter.mp hk).1
    rw [← hf] at st
    generalize (List.range (Vbwsar.size s)).filter (looseM s m) = lo at *
    refine ⟨_, rfl, p, rfl, ⟨_, SqL.of e1⟩, fun D hD => ?_⟩
    refine lc_pure (fun x => x) (fun x => m.getD (natV x) 0 == 5) hD (small1000 (by rw [vn_len]; omega)) (SqL.of e1) (fun x => rfl) (fun y hy H2 s2 Q h => ?_) (fun y hy _ H2 s2 Q h => ⟨_, rfl, h H2 (Same.refl H2)⟩) (fun H2 s2 e2 => ?_)
    · obtain ⟨n, hn, rfl⟩ := mem_vn hy
      have G2 := G.same (s1.trans s2)
      refine ⟨_, rfl, x, CG, dx, _, _, rfl, G2.ins, T.clG, T.aMat, gF_mat, _, rfl, ma, _, _, _, rfl, rfl, SqL.of G2.im, vn_atI (by rw [G.ml]; exact hlt n hn), rfl, _, rfl, ?_⟩
      rw [int_eq5]
      exact h H2 (Same.refl H2)
    · have e2 : IL H2 D (lo.filter fun k => m.getD k 0 == 5) := e2.trans (congrArg (fun z => some (HO.lst z)) (filter_vn lo fun k => m.getD k 0 == 5))
      have wlt : ∀ k ∈ lo.filter (fun k => m.getD k 0 == 5), k < Vbwsar.size s := fun k hk => hlt k (List.mem_filter.mp hk).1
      have wl : (lo.filter fun k => m.getD k 0 == 5).length ≤ 600 := Nat.le_trans (List.length_filter_le _ _) hl
      generalize lo.filter (fun k => m.getD k 0 == 5) = ks at *
      have s12 := s1.trans s2
      refine ⟨(by show 1 ≤ sizeLine; decide), fun u hu => ?_⟩
      generalize g3 : upd H2 u _ = H3
      obtain ⟨s3, e3⟩ := newS hu g3
      have G3 := G.same (s12.trans s3)
      refine ⟨_, rfl, x, CG, dx, _, _, rfl, G3.ins, T.clG, T.aLay, gF_lay, _, rfl, l, D, s, ks, rfl, L.same (s12.trans s3), s3 _ _ e2, wlt, wl, G.sz, fun H4 y s4 hy e4 => ?_⟩
      have kn : (ks.flatMap (rowN s)).length ≤ 1800 := by
        rw [rows_len]
        omega
      refine ⟨u, y, _, _, rfl, rfl, s4 _ _ e3, e4, ?_, fun v hv => ?_⟩
      · rw [vn_len, List.length_cons]
        have := small5000 (n := (ks.flatMap (rowN s)).length + 1 + 1) (by omega)
        show 1 + ((ks.flatMap (rowN s)).length + 1) ≤ sizeLine
        omega
      · rw [cat0]
        refine fin q st (X.same (s12.trans (s3.trans s4))) hv ?_
        unfold Vbwsar.ints
        rw [List.length_cons, List.length_map, List.length_cons]
        omega
end
end Gr
set_option Elab.async false
set_option linter.all false
set_option maxRecDepth 100000
set_option maxHeartbeats 4000000
namespace Gr
open PySem PySem.Spec PyProof.Rows L2
open Vbwsar (Ground)
/-! ## dark -/
theorem dark_list {s : Ground} {m w lt : List Nat} {v : Int} (S : Sim s s m w) (lis : ∀ k, k < Vbwsar.size s → lt.getD k 0 = Vbwsar.lightAt s k) :
    ((Vbwsar.keys s).filter fun k => Vbwsar.matAt s k == Vbwsar.AIR && decide ((Vbwsar.lightAt s k : Int) ≤ v)) = ((List.range (Vbwsar.size s)).filter fun k => m.getD k 0 == 0).filter fun k => decide (((lt.getD k 0 : Nat) : Int) ≤ v) := by
  rw [List.filter_filter]
  apply List.filter_congr
  intro k hk
  rw [S.em, lis k (List.mem_range.mp hk), Bool.and_comm]
  rfl
section
variable {P : Program} {w : World} {K : PySem.W.Frag} {mg : Str → Option Value} {base : Heap} {CL CG : Addr}
theorem ok_adark {f f1 f2 f3 f4 f5 f6 : Addr} {fd d1 d2 d3 d4 d5 d6 : FuncData} (F : Fun K "answer_dark" "answer_dark" sADark f fd) (T : Txt K mg CL CG) (D : LightT K mg f1 f2 f3 f4 f5 f6 d1 d2 d3 d4 d5 d6) :
    FnOk P w K mg base CX0 7 f fd ["ground", "numbers"] (spAns CL CG (fun ns => [13 :: ns]) fun ns => ns.length = 1) := by
  have GL : FnOk P w K mg base CX0 4 f5 d5 ["layout", "materials"] (spList CL lightsM) := ok_lights D.lights.F T D.clear D.opens D.own D.owns
  refine F.ok scADark (fun vs H Q E h => ?_) (fun cdv A outer s H vs Q E hr h => ?_)
  · obtain ⟨_, _, _, _, _, rfl, _⟩ := h
    rfl
  · have hr4 : Room 4 _ := hr.mono (by decide)
    refine ⟨_, pss_cons (ps_set (i := 2) scADark.nd rfl (Or.inr rfl) (pe_ix ix_list (pv 1) pe_int (fun _ _ => rfl)))
      (pss_cons (ps_if (pt_not (pt_chain op_le op_le pe_int (pv 2) (pe_gi T.gSKY))) (pss_one (ps_ret (pe_lst (pa_cons (pe_un un_neg pe_int) pa_nil)))) pss_nil)
      (pss_cons (ps_set (i := 3) scADark.nd rfl (Or.inr rfl) (pe_call GL hr4 rfl D.lights.g D.lights.F.kp D.lights.b .nil pass0 (pa_cons (pe_fld (pv 0) rfl) (pa_cons (pe_fld (pv 0) rfl) pa_nil))))
      (pss_cons (ps_setLc (i := 4) (own := [("cell", 5), ("material", 6)]) (g := gTup K 2 (gCons (gName 5) (gCons (gName 6) gNil))) rfl scADark.nd rfl rfl (sw_true rfl rfl rfl (by decide +kernel))
        (pi_enum (by rfl) T.nenum (pa_cons (pe_fld (pv 0) rfl) pa_nil)) (blkOk_by (N := NADark) (sc := defScope sADark) (by decide +kernel))
        (fun _ _ _ _ _ => pg_tup rfl (pgs_cons (pg_name (i := 5) scADark.nd rfl (Or.inl rfl)) (pgs_cons (pg_name (i := 6) scADark.nd rfl (Or.inl rfl)) pgs_nil)))
        (fun _ _ _ _ _ => pts_one (pt_cmpR op_eq (pv 6) (pe_gi T.gAIR) (nomark _)))
        (fun _ _ _ _ _ => pv 5))
      (pss_one (ps_ret (pe_lst (pa_cons pe_int (pa_cons (pe_callB call_len_seq (by rfl) T.nlen PySem.boot_len (pa_cons (pe_lc (own := [("cell", 5)]) (g := gName 5) rfl scADark.nd (pi_list (pv 4)) (blkOk_by (N := NADark) (sc := defScope sADark) (by decide +kernel))
        (fun _ _ _ _ _ => pg_name (i := 5) scADark.nd rfl (Or.inl rfl))
        (fun _ _ _ _ _ => pts_one (pt_cmpR op_le (pe_ix (r := rIxL K) ix_list (pv 3) (pv 5) (fun _ _ => rfl)) (pv 2) (nomark _)))
        (fun _ _ _ _ _ => pv 5)) pa_nil)) pa_nil)))))))), ?_⟩
    obtain ⟨HF, x, r, s, ns, rfl, X, hr', hn, q⟩ := h
    obtain ⟨v, rfl⟩ := vi1 hn
    obtain ⟨m, w, ⟨dx, l, ma, wa, HL, G⟩, S, fu⟩ := id X
    have L := G.layH
    refine ⟨_, rfl, r, _, 0, _, rfl, rfl, SqL.of (X.frame _ _ hr'), rfl, ?_⟩
    refine ⟨_, rfl, _, _, rfl, rfl, _, rfl, ?_⟩
    have st : VbwsarNeutral.step s [[13, v]] = if Vbwsar.inside v 0 15 = false then Vbwsar.no s (-2) else (s, [0, (((Vbwsar.keys s).filter fun k => Vbwsar.matAt s k == Vbwsar.AIR && decide ((Vbwsar.lightAt s k : Int) ≤ v)).length : Int)]) := rfl
    rw [inside_iff] at st
    by_cases c1 : 0 ≤ v
    · rw [show decide ((0 : Int) ≤ v) = true from decide_eq_true c1]
      refine iteT ⟨_, _, rfl, rfl, _, rfl, ?_⟩
      by_cases c2 : v ≤ 15
      · rw [show decide (v ≤ (15 : Int)) = true from decide_eq_true c2]
        rw [decide_eq_true ⟨c1, c2⟩, if_neg (by decide)] at st
        refine iteF ⟨_, rfl, x, CG, dx, _, _, rfl, G.ins, T.clG, T.aLay, gF_lay, _, rfl, x, CG, dx, _, _, rfl, G.ins, T.clG, T.aMat, gF_mat, l, ma, s, m, rfl, L, G.im, G.ml, G.sz, fun H1 p s1 hp e1 => ?_⟩
        have lis : ∀ k, k < Vbwsar.size s → (lightsM s m).getD k 0 = Vbwsar.lightAt s k := fun k h => by rw [lights_is S.em h, light_is S.lit]
        have ll : (lightsM s m).length = Vbwsar.size s := lights_len
        rw [dark_list S lis] at st
        generalize lightsM s m = lt at *
        have G1 := G.same s1
        have hl : ((List.range (Vbwsar.size s)).filter fun k => m.getD k 0 == 0).length ≤ 600 := by
          refine Nat.le_trans (List.length_filter_le _ _) ?_
          rw [List.length_range]
          exact G.sz
        have hlt : ∀ k ∈ (List.range (Vbwsar.size s)).filter (fun k => m.getD k 0 == 0), k < Vbwsar.size s := fun k hk => List.mem_range.mp (List.mem_filter.mp hk).1
        refine ⟨_, rfl, x, CG, dx, _, _, rfl, G1.ins, T.clG, T.aMat, gF_mat, ma, vn m, rfl, SqL.of G1.im, fun D hD => ?_⟩
        refine lc_it walk_enum (fun j H' => Same H1 H' ∧ IL H' D ((List.range j).filter fun k => m.getD k 0 == 0)) ⟨same_new hD, upd_same⟩ (fun i H' _ h => SqL.of (h.1 _ _ G1.im)) ?_ ?_
        · rintro j y H3 H4 hj ⟨s3, e3⟩ ⟨t, x1, x2, rfl, ht, rfl, h1, h2⟩
          rw [vn_len] at hj
          injection h1 with h1
          subst h1
          obtain ⟨b, hb, rfl⟩ := at_vn h2
          have bv : b = m.getD j 0 := by
            rw [List.getD_eq_getElem?_getD, hb]
            rfl
          subst bv
          have s4 : Same H3 (upd H3 t (.tup [.int (j : Int), .int ((m.getD j 0 : Nat) : Int)])) := same_new ht
          refine ⟨t, _, rfl, SqT.of upd_same, rfl, _, _, rfl, _, _, rfl, rfl, rfl, ?_⟩
          refine ⟨_, rfl, rfl, _, rfl, ?_⟩
          rw [int_eq0]
          have gs := G.sz
          have gm := G.ml
          cases c : (m.getD j 0 == 0) with
          | true =>
            refine iteT ⟨_, rfl, _, s4 _ _ e3, ?_, same_upd (s3.trans s4) hD, ?_⟩
            · rw [vn_len]
              refine Nat.lt_of_le_of_lt (List.length_filter_le _ _) ?_
              rw [List.length_range]
              exact small1000 (by omega)
            · unfold IL
              rw [upd_same, filter_more, if_pos c]
              exact congrArg (fun z => some (HO.lst z)) vn_snoc
          | false =>
            have sk : (List.range (j + 1)).filter (fun k => m.getD k 0 == 0) = (List.range j).filter (fun k => m.getD k 0 == 0) := by
              rw [filter_more, if_neg (by rw [c]; decide)]
            rw [sk]
            exact iteF ⟨s3.trans s4, s4 _ _ e3⟩
        · rintro H3 ⟨s3, e3⟩
          rw [vn_len, G.ml] at e3
          generalize (List.range (Vbwsar.size s)).filter (fun k => m.getD k 0 == 0) = ks at *
          have f1 : IL H3 p lt := s3 _ _ e1
          have s13 := s1.trans s3
          refine ⟨_, rfl, D, rfl, ⟨_, SqL.of e3⟩, fun D2 hD2 => ?_⟩
          refine lc_pure (fun x => x) (fun x => decide (((lt.getD (natV x) 0 : Nat) : Int) ≤ v)) hD2 (small1000 (by rw [vn_len]; omega)) (SqL.of e3) (fun x => rfl) (fun y hy H5 s5 Q h => ?_) (fun y hy _ H2 s2 Q h => ⟨_, rfl, h H2 (Same.refl H2)⟩) (fun H5 s5 e5 => ?_)
          · obtain ⟨n, hn, rfl⟩ := mem_vn hy
            exact ⟨_, rfl, _, rfl, p, _, _, _, rfl, rfl, SqL.of (s5 _ _ f1), vn_atI (by rw [ll]; exact hlt n hn), _, rfl, _, _, rfl, rfl, _, rfl, h H5 (Same.refl H5)⟩
          · have e5 : IL H5 D2 (ks.filter fun k => decide (((lt.getD k 0 : Nat) : Int) ≤ v)) := e5.trans (congrArg (fun z => some (HO.lst z)) (filter_vn ks fun k => decide (((lt.getD k 0 : Nat) : Int) ≤ v)))
            generalize (ks.filter fun k => decide (((lt.getD k 0 : Nat) : Int) ≤ v)) = us at *
            refine ⟨D2, _, rfl, .inl (SqL.of e5), (by show 2 ≤ sizeLine; decide), fun p hp => ?_⟩
            rw [vn_len]
            exact fin q st (X.same (s13.trans s5)) hp (Nat.le_of_ble_eq_true rfl)
      · rw [show decide (v ≤ (15 : Int)) = false from decide_eq_false c2]
        rw [decide_eq_false (fun z => c2 z.2), if_pos rfl] at st
        exact iteT ⟨_, rfl, (by show 1 ≤ sizeLine; decide), fun p hp => fin q st X hp (by decide)⟩
    · rw [show decide ((0 : Int) ≤ v) = false from decide_eq_false c1]
      rw [decide_eq_false (fun z => c1 z.1), if_pos rfl] at st
      exact iteF ⟨_, rfl, iteT ⟨_, rfl, (by show 1 ≤ sizeLine; decide), fun p hp => fin q st X hp (by decide)⟩⟩
end
end Gr
set_option Elab.async false
set_option linter.all false
set_option maxRecDepth 100000
set_option maxHeartbeats 4000000
namespace Gr
open PySem PySem.Spec PyProof.Rows L2
open Vbwsar (Ground)
/-! ## empty -/
abbrev sAEmpty : Stmt := top 53
abbrev NAEmpty : List Str := ["ground", "sides", "cells"]
theorem scAEmpty : FnScope NAEmpty ["ground", "sides"] (defScope sAEmpty) := ⟨rfl, rfl, rfl, by decide +kernel, rfl, by decide +kernel, by decide +kernel⟩
abbrev sAText : Stmt := top 52
abbrev NAText : List Str := ["ground", "octets", "why", "sides", "materials", "water"]
theorem scAText : FnScope NAText ["ground", "octets"] (defScope sAText) := ⟨rfl, rfl, rfl, by decide +kernel, rfl, by decide +kernel, by decide +kernel⟩
theorem fits_spec (x y z : Int) : ([x, y, z].all (fun n => Vbwsar.inside n 1 (Vbwsar.SIDE : Int)) = false ∨ (Vbwsar.CELLS : Int) < x * (y * z)) ↔ fitsI [x, y, z] = false := by
  have i : ∀ n : Int, Vbwsar.inside n 1 (Vbwsar.SIDE : Int) = inSide n := fun n => by
    rw [Bool.eq_iff_iff, inSide_iff, inside_iff, decide_eq_true_iff]
    exact Iff.rfl
  have p : prodI [x, y, z] = x * (y * z) := by
    unfold prodI
    rw [List.foldl_cons, List.foldl_cons, List.foldl_cons, List.foldl_nil, Int.one_mul, Int.mul_assoc]
  unfold fitsI
  rw [show (fun n => Vbwsar.inside n 1 (Vbwsar.SIDE : Int)) = inSide from funext i, p, Bool.and_eq_false_iff, decide_eq_false_iff_not]
  rw [Int.not_le]
  exact Iff.rfl
theorem wrong_zero {t : List Nat} {L : List (List (List Nat))} (e : layM t = some L) (h : wrongM t = 0) : evenM L = true ∧ fitsN (sidesM L).1 (sidesM L).2.1 (sidesM L).2.2 = true ∧ ∀ c ∈ t, c = 10 ∨ (Vbwsar.meant c).isSome = true := by
  unfold wrongM at h
  rw [e] at h
  dsimp only at h
  by_cases a : evenM L = false
  · rw [if_pos a] at h
    cases h
  · rw [if_neg a] at h
    by_cases b : fitsN (sidesM L).1 (sidesM L).2.1 (sidesM L).2.2 = false
    · rw [if_pos b] at h
      cases h
    · rw [if_neg b] at h
      refine ⟨by simpa using a, by simpa using b, fun c hc => ?_⟩
      by_cases d : (t.all fun c => c == 10 || (Vbwsar.meant c).isSome) = true
      · have := List.all_eq_true.mp d c hc
        simpa using this
      · rw [if_neg d] at h
        cases h
theorem vi_nat : ∀ ns : List Int, (∀ n ∈ ns, 0 ≤ n) → vi ns = vn (ns.map Int.toNat)
  | [], _ => rfl
  | a :: ns, h => by
    show V.int a :: vi ns = V.int ((a.toNat : Nat) : Int) :: vn (ns.map Int.toNat)
    rw [vi_nat ns fun n q => h n (List.mem_cons_of_mem _ q), Int.toNat_of_nonneg (h a (List.mem_cons_self ..))]
/-- a text's bytes -/
def bytesOk (ns : List Int) : Prop := (∀ n ∈ ns, 0 ≤ n ∧ n ≤ 255) ∧ ns.length ≤ 1000
/-- the defs of a text's reading -/
structure TextT (K : PySem.W.Frag) (mg : Str → Option Value) (fY fE fF fS fC fW fR : Addr) (dY dE dF dS dC dW dR : FuncData) : Prop where
  layers : DefN K mg "layers_of" sLayers ["octets"] fY dY
  even : DefN K mg "is_even" sEven ["layers"] fE dE
  fits : DefN K mg "fits" sFits ["sides"] fF dF
  sides : DefN K mg "sides_of" sSidesOf ["layers"] fS dS
  conts : DefN K mg "contents_by_sign" sConts [] fC dC
  wrong : DefN K mg "what_is_wrong" sWrong ["octets"] fW dW
  read : DefN K mg "read_text" sRead ["octets"] fR dR
section
variable {P : Program} {w : World} {K : PySem.W.Frag} {mg : Str → Option Value} {base : Heap} {CL CG aS : Addr}
theorem ok_aempty {f fI fC fA fN fL fB fP fR fO fF : Addr} {fd fdI fdC fdA fdN fdL fdB fdP fdR fdO dF : FuncData} (F : Fun K "answer_empty" "answer_empty" sAEmpty f fd) (T : Txt K mg CL CG) (Y : LayT K CL fI fC fA fN fL fdI fdC fdA fdN fdL) (R : GrT K CG fB fP fR fO fdB fdP fdR fdO)
    (DF : DefN K mg "fits" sFits ["sides"] fF dF) : FnOk P w K mg base CX0 7 f fd ["ground", "sides"] (spAns CL CG (fun ns => [1 :: ns]) fun ns => ns.length = 3) := by
  have GF : FnOk P w K mg base CX0 1 fF dF ["sides"] (spFitsL K) := ok_fitsL DF.F T
  have GB : FnOk P w K mg base CX0 6 fB fdB ["self", "sides", "materials", "water"] (spBegin CL CG) := ok_begin R.FB T Y
  refine F.ok scAEmpty (fun vs H Q E h => ?_) (fun cdv A outer s H vs Q E hr h => ?_)
  · obtain ⟨_, _, _, _, _, rfl, _⟩ := h
    rfl
  · have hr1 : Room 1 _ := hr.mono (by decide)
    refine ⟨_, pss_cons (ps_if (pt_not (pt_val (pe_call GF hr1 rfl DF.g DF.F.kp DF.b .nil pass0 (pa_cons (pv 1) pa_nil)))) (pss_one (ps_ret (pe_lst (pa_cons (pe_un un_neg pe_int) pa_nil)))) pss_nil)
      (pss_cons (ps_set (i := 2) scAEmpty.nd rfl (Or.inl rfl) (pe_op op_mul (pe_op op_mul (pe_ix ix_list (pv 1) pe_int (fun _ _ => rfl)) (pe_ix ix_list (pv 1) pe_int (fun _ _ => rfl))) (pe_ix ix_list (pv 1) pe_int (fun _ _ => rfl))))
      (pss_cons (ps_expr (pe_meth (pv 0) T.clG R.mB GB hr R.bB .nil pass0 (pa_cons (pe_callTy call_tuple_of (by rfl) T.ntuple (by decide +kernel) (pa_cons (pv 1) pa_nil)) (pa_cons (pe_op op_rep (pe_lst (pa_cons (pe_gi T.gAIR) pa_nil)) (pv 2)) (pa_cons (pe_op op_rep (pe_lst (pa_cons pe_int pa_nil)) (pv 2)) pa_nil)))))
      (pss_one (ps_ret (pe_lst (pa_cons pe_int pa_nil)))))), ?_⟩
    obtain ⟨HF, x, r, s, ns, rfl, X, hr', hn, q⟩ := h
    obtain ⟨a, b, c, rfl⟩ := vi3 hn
    obtain ⟨m, w, ⟨dx, l, ma, wa, HL, G⟩, S, fu⟩ := id X
    have hrH : H r = some (.lst (vi [a, b, c])) := X.frame _ _ hr'
    refine ⟨_, rfl, r, [a, b, c], rfl, SqL.of hrH, rfl, _, rfl, ?_⟩
    have st : VbwsarNeutral.step s [[1, a, b, c]] = if [a, b, c].all (fun n => Vbwsar.inside n 1 (Vbwsar.SIDE : Int)) = false ∨ (Vbwsar.CELLS : Int) < a * (b * c) then Vbwsar.no s (-2) else
      ({ ({ sx := a.toNat, sy := b.toNat, sz := c.toNat } : Ground) with light := Vbwsar.plainLight { sx := a.toNat, sy := b.toNat, sz := c.toNat } }, [0]) := rfl
    have fs := fits_spec a b c
    cases fi : fitsI [a, b, c] with
    | false =>
      rw [if_pos (fs.mpr fi)] at st
      exact iteT ⟨_, rfl, (by show 1 ≤ sizeLine; decide), fun p hp => fin q st X hp (by decide)⟩
    | true =>
      rw [if_neg (fun z => by rw [fs.mp z] at fi; cases fi)] at st
      have al := (Bool.and_eq_true_iff.mp fi).1
      have ia := inSide_iff.mp (List.all_eq_true.mp al a (List.mem_cons_self ..))
      have ib := inSide_iff.mp (List.all_eq_true.mp al b (List.mem_cons_of_mem _ (List.mem_cons_self ..)))
      have ic := inSide_iff.mp (List.all_eq_true.mp al c (List.mem_cons_of_mem _ (List.mem_cons_of_mem _ (List.mem_cons_self ..))))
      obtain ⟨i, rfl⟩ : ∃ n : Nat, a = (n : Int) := ⟨a.toNat, by omega⟩
      obtain ⟨j, rfl⟩ : ∃ n : Nat, b = (n : Int) := ⟨b.toNat, by omega⟩
      obtain ⟨k, rfl⟩ : ∃ n : Nat, c = (n : Int) := ⟨c.toNat, by omega⟩
      rw [Int.toNat_natCast, Int.toNat_natCast, Int.toNat_natCast] at st
      rw [fits_NI] at fi
      unfold fitsN at fi
      have fi := of_decide_eq_true fi
      have hij : i * j ≤ 144 := Nat.le_trans (Nat.mul_le_mul fi.2.1 fi.2.2.2.1) (by decide)
      generalize hg : ({ sx := i, sy := j, sz := k } : Ground) = g at st
      have gx : g.sx = i := by rw [← hg]
      have gy : g.sy = j := by rw [← hg]
      have gz : g.sz = k := by rw [← hg]
      have gs : Vbwsar.size g = i * j * k := by
        unfold Vbwsar.size
        rw [gx, gy, gz, Nat.mul_assoc]
      have sz : Vbwsar.size g ≤ 600 := by
        rw [gs]
        exact fi.2.2.2.2.2.2
      have E := empty_is (s := g) (by rw [← hg]) (by rw [← hg]) sz
      have ls : SqL K H r [V.int (i : Int), V.int (j : Int), V.int (k : Int)] := SqL.of hrH
      refine iteF ⟨_, rfl, r, _, 0, _, rfl, rfl, ls, rfl, _, rfl, r, _, 1, _, rfl, rfl, ls, rfl, _, _, rfl, rfl, .inl ⟨by omega, by omega⟩, _, rfl, r, _, 2, _, rfl, rfl, ls, rfl, _, _, rfl, rfl, .inl ⟨?_, ?_⟩, ?_⟩
      · have : (0 : Int) ≤ (i : Int) * (j : Int) := by
          rw [← Int.natCast_mul]
          omega
        omega
      · have : (i : Int) * (j : Int) ≤ 144 := by
          rw [← Int.natCast_mul]
          omega
        omega
      rw [show (fun i j : Int => V.int (i * j)) ((i : Int) * (j : Int)) (k : Int) = V.int ((Vbwsar.size g : Nat) : Int) from congrArg V.int (by rw [gs, Int.natCast_mul, Int.natCast_mul])]
      refine ⟨_, rfl, x, dx, _, rfl, G.ins, gF_begin, _, rfl, r, _, rfl, .inl ⟨ls, fun sa hsa => ?_⟩⟩
      generalize g1 : upd H sa _ = H1
      obtain ⟨s1, e1⟩ := newS hsa g1
      refine ⟨(by show 1 ≤ sizeLine; decide), fun u1 hu1 => ?_⟩
      generalize g2 : upd H1 u1 _ = H2
      obtain ⟨s2, e2⟩ := newS hu1 g2
      refine ⟨_, rfl, u1, _, _, rfl, rfl, e2, by omega, by omega, ?_, fun na hna => ?_⟩
      · show 1 * ((Vbwsar.size g : Nat) : Int).toNat ≤ sizeLine
        rw [Int.toNat_natCast, Nat.one_mul]
        exact Nat.le_of_lt (small1000 (by omega))
      generalize g3 : upd H2 na _ = H3
      obtain ⟨s3, e3⟩ := newS hna g3
      refine ⟨(by show 1 ≤ sizeLine; decide), fun u2 hu2 => ?_⟩
      generalize g4 : upd H3 u2 _ = H4
      obtain ⟨s4, e4⟩ := newS hu2 g4
      refine ⟨_, rfl, u2, _, _, rfl, rfl, e4, by omega, by omega, ?_, fun nb hnb => ?_⟩
      · show 1 * ((Vbwsar.size g : Nat) : Int).toNat ≤ sizeLine
        rw [Int.toNat_natCast, Nat.one_mul]
        exact Nat.le_of_lt (small1000 (by omega))
      generalize g5 : upd H4 nb _ = H5
      obtain ⟨s5, e5⟩ := newS hnb g5
      rw [rep_flat, Int.toNat_natCast] at e3 e5
      have rv : ∀ n : Nat, List.replicate n (V.int 0) = vn (List.replicate n 0) := fun n => by
        show _ = (List.replicate n 0).map _
        rw [List.map_replicate]
        rfl
      rw [rv] at e3 e5
      have s13 := s1.trans (s2.trans s3)
      have s45 := s4.trans s5
      have s15 := s13.trans s45
      have G5 := G.same s15
      have z0 : ∀ k, (List.replicate (Vbwsar.size g) 0).getD k 0 ≤ 0 := fun k => by
        rw [getD_rep]
        split <;> omega
      refine ⟨HF, x, dx, sa, na, nb, _, g, List.replicate (Vbwsar.size g) 0, List.replicate (Vbwsar.size g) 0, rfl, G5.ins, .inr ⟨_, _, _, _, rfl⟩, ?_, s45 _ _ e3, e5, ne_of_none (s4 _ _ e3) hnb, G5.subF, G.fx, G.subF.free hsa, G.subF.free (s1.free (s2.free hna)), G.subF.free (s13.free (s4.free hnb)),
        List.length_replicate, List.length_replicate, sz, fun k => Nat.le_trans (z0 k) (Nat.zero_le _), fun k => Nat.le_trans (z0 k) (Nat.zero_le _), by omega, by omega, by omega, fun H6 G6 _ => ?_⟩
      · rw [gx, gy, gz]
        exact s45 _ _ (s3 _ _ (s2 _ _ e1))
      · exact ⟨(by show 1 ≤ sizeLine; decide), fun p hp => fin q st (GX.of G6 E (by rw [← hg]) (.inr ⟨by omega, by omega, by omega⟩)) hp (by decide)⟩
theorem ok_atext {f fI fC fA fN fL fB fP fR fO gY gE gF gS gC gW gR : Addr} {fd fdI fdC fdA fdN fdL fdB fdP fdR fdO dY dE dF dS dC dW dR : FuncData} (F : Fun K "answer_text" "answer_text" sAText f fd) (T : Txt K mg CL CG) (TS : TxtS K mg aS) (Y : LayT K CL fI fC fA fN fL fdI fdC fdA fdN fdL) (R : GrT K CG fB fP fR fO fdB fdP fdR fdO)
    (D : TextT K mg gY gE gF gS gC gW gR dY dE dF dS dC dW dR) : FnOk P w K mg base CX0 7 f fd ["ground", "octets"] (spAns CL CG (fun ns => [[0], ns]) bytesOk) := by
  have GW : FnOk P w K mg base CX0 2 gW dW ["octets"] spWrong := ok_wrong D.wrong.F T TS D.layers D.even D.fits D.sides D.conts
  have GR : FnOk P w K mg base CX0 2 gR dR ["octets"] spRead := ok_read D.read.F T TS D.layers D.sides D.conts
  have GB : FnOk P w K mg base CX0 6 fB fdB ["self", "sides", "materials", "water"] (spBegin CL CG) := ok_begin R.FB T Y
  refine F.ok scAText (fun vs H Q E h => ?_) (fun cdv A outer s H vs Q E hr h => ?_)
  · obtain ⟨_, _, _, _, _, rfl, _⟩ := h
    rfl
  · have hr2 : Room 2 _ := hr.mono (by decide)
    refine ⟨_, pss_cons (ps_set (i := 2) scAText.nd rfl (Or.inl rfl) (pe_call GW hr2 rfl D.wrong.g D.wrong.F.kp D.wrong.b .nil pass0 (pa_cons (pv 1) pa_nil)))
      (pss_cons (ps_if (pt_cmpR op_gt (pv 2) pe_int (nomark _)) (pss_one (ps_ret (pe_lst (pa_cons pe_int (pa_cons (pv 2) pa_nil))))) pss_nil)
      (pss_cons (ps_asg (pe_call GR hr2 rfl D.read.g D.read.F.kp D.read.b .nil pass0 (pa_cons (pv 1) pa_nil)) (pg_tup (by rfl) (pgs_cons (pg_name (i := 3) scAText.nd rfl (Or.inl rfl)) (pgs_cons (pg_name (i := 4) scAText.nd rfl (Or.inl rfl)) (pgs_cons (pg_name (i := 5) scAText.nd rfl (Or.inl rfl)) pgs_nil)))))
      (pss_cons (ps_expr (pe_meth (pv 0) T.clG R.mB GB hr R.bB .nil pass0 (pa_cons (pv 3) (pa_cons (pv 4) (pa_cons (pv 5) pa_nil)))))
      (pss_one (ps_ret (pe_op op_cat (pe_lst (pa_cons pe_int pa_nil)) (pe_callTy call_list_of (by rfl) T.nlist PyProof.Rows.boot_list (pa_cons (pv 3) pa_nil)))))))), ?_⟩
    obtain ⟨HF, x, r, s, ns, rfl, X, hr', hn, q⟩ := h
    obtain ⟨m, w, ⟨dx, l, ma, wa, HL, G⟩, S, fu⟩ := id X
    have st : VbwsarNeutral.step s [[0], ns] = if ns.all Vbwsar.byte = false then Vbwsar.no s (-2) else match Vbwsar.readText (ns.map Int.toNat) with
      | .inl k => (s, [1, (k : Int)])
      | .inr h => (h, 0 :: Vbwsar.ints [h.sx, h.sy, h.sz]) := rfl
    have al : ns.all Vbwsar.byte = true := List.all_eq_true.mpr fun n h => by
      unfold Vbwsar.byte
      rw [inside_iff]
      exact decide_eq_true (hn.1 n h)
    rw [if_neg (by rw [al]; decide)] at st
    have hrH : H r = some (.lst (vi ns)) := X.frame _ _ hr'
    rw [vi_nat ns fun n h => (hn.1 n h).1] at hrH
    have tl : (ns.map Int.toNat).length ≤ 1000 := by
      rw [List.length_map]
      exact hn.2
    have RI := read_is (ns.map Int.toNat)
    generalize ns.map Int.toNat = t at *
    refine ⟨_, rfl, r, t, rfl, hrH, tl, fun H1 s1 => ?_⟩
    refine ⟨_, rfl, _, _, rfl, rfl, _, rfl, ?_⟩
    rcases RI with ⟨w0, L, h, rd, Tt⟩ | ⟨wp, rd⟩
    · rw [rd] at st
      obtain ⟨ev, fi, ok⟩ := wrong_zero Tt.lay w0
      unfold fitsN at fi
      have fi := of_decide_eq_true fi
      rw [show decide ((0 : Int) < ((wrongM t : Nat) : Int)) = false from decide_eq_false (by omega)]
      refine iteF ⟨_, rfl, r, t, L, rfl, s1 _ _ hrH, tl, Tt.lay, ev, ok, fun H2 p sa na nb s2 hp hsa hna hnb nab e1 esa ea eb => ?_⟩
      have s12 := s1.trans s2
      have G2 := G.same s12
      have f0 : ∀ {c}, H1 c = none → HF c = none := fun e => G.subF.free (s1.free e)
      refine ⟨p, _, rfl, SqT.of e1, rfl, _, _, rfl, _, _, rfl, _, _, rfl, rfl, ?_⟩
      rw [← Tt.x, ← Tt.y, ← Tt.z] at esa
      rw [← Tt.x, ← Tt.y, ← Tt.z] at fi
      refine ⟨_, rfl, x, dx, _, rfl, G2.ins, gF_begin, _, rfl, _, rfl, _, rfl, HF, x, dx, sa, na, nb, _, h, _, _, rfl, G2.ins, .inr ⟨_, _, _, _, rfl⟩, esa, ea, eb, nab, G2.subF, G.fx, f0 hsa, f0 hna, f0 hnb, Tt.sim.ml, Tt.sim.wl, Tt.sim.sz, Tt.sim.w8, Tt.sim.five, by omega, by omega, by omega, fun H3 G3 k3 => ?_⟩
      have X3 : GX CL CG HF H3 x h := GX.of G3 Tt.sim Tt.ticks (.inr ⟨by omega, by omega, by omega⟩)
      refine ⟨(by show 1 ≤ sizeLine; decide), fun u hu => ?_⟩
      generalize g4 : upd H3 u _ = H4
      obtain ⟨s4, e4⟩ := newS hu g4
      have esa3 := s4 _ _ (k3 _ _ esa (ne_of esa G2.ins (by intro z; cases z)))
      refine ⟨_, rfl, sa, _, rfl, .inr (SqT.of esa3), fun v hv => ?_⟩
      generalize g5 : upd H4 v _ = H5
      obtain ⟨s5, e5⟩ := newS hv g5
      exact ⟨u, v, _, _, rfl, rfl, s5 _ _ e4, e5, (by show 4 ≤ sizeLine; decide), fun y hy => fin q st (X3.same (s4.trans s5)) hy (Nat.le_of_ble_eq_true rfl)⟩
    · rw [rd] at st
      rw [show decide ((0 : Int) < ((wrongM t : Nat) : Int)) = true from decide_eq_true (by omega)]
      exact iteT ⟨_, rfl, (by show 2 ≤ sizeLine; decide), fun p hp => fin q st (X.same s1) hp (Nat.le_of_ble_eq_true rfl)⟩
end
end Gr
set_option Elab.async false
set_option linter.all false
set_option maxRecDepth 100000
set_option maxHeartbeats 4000000
/-! # A written dict with whole-number keys -/
namespace Gr
open PySem PySem.Spec PyProof.Rows L2
def keyI (e : DictEntry) : Bool := match e.key with
  | .int k _ => e.hash == hashInt k
  | _ => false
def keysI (es : Array DictEntry) : Bool := es.toList.all keyI
section
variable {prog : Program} {w : World} {h : Heap} {a : Addr} {K : PySem.W.Frag} {es : Array DictEntry} {n : Nat}
theorem keysOf_I (hk : keysI es = true) : PySem.KeysOf (intKind prog w) es := fun e he => by
  have := List.all_eq_true.mp hk e (Array.mem_toList_iff.mpr he)
  unfold keyI at this
  split at this
  · rename_i k t hkey
    exact ⟨k, by rw [hkey]; exact intKind_is prog w k t, beq_iff_eq.mp this⟩
  · cases this
theorem mapOf_I (X : K.In h) (hl : K.lookup a = some ⟨.type "dict", none, .dict es n, #[]⟩) (hk : keysI es = true) : h.MapOf (intKind prog w) a (fun k => findBy Value.isInt es k) :=
  ⟨_, es, n, X _ _ hl, ⟨rfl, rfl, rfl⟩, rfl, keysOf_I hk, fun _ => rfl⟩
end
/-- at a stands a written dict that holds v at z -/
def KIt (K : PySem.W.Frag) (a : Addr) (z : Int) (v : V) : Prop :=
  ∃ es n u, K.lookup a = some ⟨.type "dict", none, .dict es n, #[]⟩ ∧ keysI es = true ∧ findBy Value.isInt es z = some u ∧ RelV v u
def rIxKI (K : PySem.W.Frag) : R2 := fun x y H Q => ∃ p z v, x = .ref p ∧ y = .int z ∧ KIt K p z v ∧ Q v H
theorem ix_kdI {X : Cx} : IxR X (rIxKI X.K) := by
  intro value slice pins s σ H x y v u Q I rx ry h hs
  obtain ⟨p, z, r, rfl, rfl, ⟨es, n, u0, hl, hk, e, ru⟩, q⟩ := h
  obtain rfl : v = Value.ref p := rx
  obtain ⟨t, rfl⟩ := ry
  have hm := mapOf_I (prog := X.prog) (w := X.w) I.kIn hl hk
  exact tail_any hm.typeIs slot_dict_getitem.lookup (wpAny_getItem_of (intKind_is X.prog X.w z t) hm e ⟨r, H, I.tok _, ru, q⟩) hs
/-- a written tuple of a number and a def -/
def KPair (K : PySem.W.Frag) (t : Addr) (n : Int) (f : Addr) : Prop := ∃ (dd : Option Addr) (k m : Nat) (sl : Array (Option Value)), K.lookup t = some ⟨.type "tuple", dd, .seq #[.int n k, .ref f] m, sl⟩
theorem KPair.sq {K : PySem.W.Frag} {t f : Addr} {n : Int} {H : Hp} (h : KPair K t n f) : SqT K H t [.int n, .ref f] := by
  obtain ⟨dd, k, m, sl, e⟩ := h
  exact .inr ⟨_, _, m, e, rfl, rfl, (by show 2 ≤ sizeLine; decide), .cons ⟨_, rfl⟩ (.cons rfl .nil)⟩
end Gr
set_option Elab.async false
set_option linter.all false
set_option maxRecDepth 100000
set_option maxHeartbeats 4000000
namespace Gr
open PySem PySem.Spec PyProof.Rows L2
open Vbwsar (Ground)
/-! # The line: calls one behind another -/
/-- how many numbers a call has -/
def argN (i : Nat) : Nat := [0, 3, 0, 4, 4, 4, 1, 1, 3, 1, 3, 0, 0, 1, 2].getD i 0
theorem to14 {i : Nat} (h1 : 1 ≤ i) (h2 : i ≤ 14) : i = 1 ∨ i = 2 ∨ i = 3 ∨ i = 4 ∨ i = 5 ∨ i = 6 ∨ i = 7 ∨ i = 8 ∨ i = 9 ∨ i = 10 ∨ i = 11 ∨ i = 12 ∨ i = 13 ∨ i = 14 := by omega
theorem shape_i {i : Nat} (h1 : 1 ≤ i) (h2 : i ≤ 14) : PyVbwsar.shape (i : Int) = some (argN i, 0) := by
  rcases to14 h1 h2 with rfl | rfl | rfl | rfl | rfl | rfl | rfl | rfl | rfl | rfl | rfl | rfl | rfl | rfl <;> rfl
theorem shape_is {p : Int} {n k : Nat} (h : PyVbwsar.shape p = some (n, k)) : (p = 0 ∧ n = 0 ∧ k = 1) ∨ ∃ i : Nat, 1 ≤ i ∧ i ≤ 14 ∧ p = (i : Int) ∧ n = argN i ∧ k = 0 := by
  by_cases c : 0 ≤ p ∧ p ≤ 14
  · obtain ⟨i, rfl⟩ : ∃ i : Nat, p = (i : Int) := ⟨p.toNat, by omega⟩
    by_cases z : i = 0
    · subst z
      have e : PyVbwsar.shape ((0 : Nat) : Int) = some (0, 1) := rfl
      rw [e] at h
      injection h with h
      injection h with h1 h2
      exact .inl ⟨rfl, h1.symm, h2.symm⟩
    · rw [shape_i (i := i) (by omega) (by omega)] at h
      injection h with h
      injection h with h1 h2
      exact .inr ⟨i, by omega, by omega, rfl, h1.symm, h2.symm⟩
  · unfold PyVbwsar.shape at h
    repeat rw [if_neg (by omega)] at h
    cases h
theorem call_is {p : Int} {r t : List Int} {c : List (List Int)} (h : PyFlat.call PyVbwsar.shape (p :: r) = some (c, t)) :
    (p = 0 ∧ ∃ (n : Nat) (r' : List Int), r = (n : Int) :: r' ∧ n ≤ r'.length ∧ c = [[0], r'.take n] ∧ t = r'.drop n) ∨
    ∃ i : Nat, 1 ≤ i ∧ i ≤ 14 ∧ p = (i : Int) ∧ argN i ≤ r.length ∧ c = [(i : Int) :: r.take (argN i)] ∧ t = r.drop (argN i) := by
  unfold PyFlat.call at h
  dsimp only at h
  cases e : PyVbwsar.shape p with
  | none =>
    rw [e] at h
    cases h
  | some q =>
    obtain ⟨n, k⟩ := q
    rw [e] at h
    dsimp only at h
    rcases shape_is e with ⟨rfl, rfl, rfl⟩ | ⟨i, i1, i2, rfl, rfl, rfl⟩
    · rw [if_neg (by omega)] at h
      refine .inl ⟨rfl, ?_⟩
      cases r with
      | nil => cases h
      | cons z r' =>
        unfold PyFlat.rows PyFlat.row at h
        rw [List.drop_zero] at h
        dsimp only at h
        by_cases g : 0 ≤ z ∧ z.toNat ≤ r'.length
        · rw [if_pos g] at h
          unfold PyFlat.rows at h
          dsimp only at h
          injection h with h
          injection h with h1 h2
          refine ⟨z.toNat, r', ?_, g.2, ?_, ?_⟩
          · rw [Int.toNat_of_nonneg g.1]
          · rw [← h1]
            rfl
          · rw [← h2]
        · rw [if_neg g] at h
          cases h
    · by_cases g : r.length < argN i
      · rw [if_pos g] at h
        cases h
      · rw [if_neg g] at h
        unfold PyFlat.rows at h
        dsimp only at h
        injection h with h
        injection h with h1 h2
        exact .inr ⟨i, i1, i2, rfl, by omega, h1.symm, h2.symm⟩
theorem calls_is {f : Nat} {p : Int} {r : List Int} {raw : List (List (List Int))} (h : PyFlat.calls PyVbwsar.shape f (p :: r) = some raw) :
    ∃ f' c t raw', PyFlat.call PyVbwsar.shape (p :: r) = some (c, t) ∧ PyFlat.calls PyVbwsar.shape f' t = some raw' ∧ raw = c :: raw' := by
  cases f with
  | zero => cases h
  | succ f =>
    unfold PyFlat.calls at h
    cases e : PyFlat.call PyVbwsar.shape (p :: r) with
    | none =>
      rw [e] at h
      cases h
    | some q =>
      obtain ⟨c, t⟩ := q
      rw [e] at h
      dsimp only at h
      cases g : PyFlat.calls PyVbwsar.shape f t with
      | none =>
        rw [g] at h
        cases h
      | some raw' =>
        rw [g] at h
        exact ⟨f, c, t, raw', rfl, g, (Option.some.inj h).symm⟩
theorem calls_nil {f : Nat} {raw : List (List (List Int))} (h : PyFlat.calls PyVbwsar.shape f [] = some raw) : raw = [] := by
  cases f with
  | zero => exact (Option.some.inj h).symm
  | succ f => exact (Option.some.inj h).symm
theorem whole_id (c : List (List Int)) : PyVbwsar.whole c = c := by
  unfold PyVbwsar.whole
  split <;> rfl
theorem wholes_id (raw : List (List (List Int))) : raw.map PyVbwsar.whole = raw := by
  induction raw with
  | nil => rfl
  | cons c r ih => rw [List.map_cons, ih, whole_id]
theorem answers_is {cs : List Int} {raw : List (List (List Int))} (h : PyFlat.calls PyVbwsar.shape cs.length cs = some raw) : PyVbwsar.answers cs = PyFlat.told (PyFlat.played VbwsarNeutral.step VbwsarNeutral.start raw) := by
  unfold PyVbwsar.answers PyVbwsar.calls
  rw [h]
  dsimp only
  rw [wholes_id]
theorem asked_is {cs : List Int} (h : PyVbwsar.answers_asked cs = true) : ∃ raw, PyFlat.calls PyVbwsar.shape cs.length cs = some raw ∧ raw.length ≤ 200 ∧ ∀ c ∈ raw, VbwsarNeutral.asked1 c = true := by
  unfold PyVbwsar.answers_asked at h
  cases e : PyFlat.calls PyVbwsar.shape cs.length cs with
  | none =>
    rw [e] at h
    cases h
  | some raw =>
    rw [e] at h
    dsimp only at h
    rw [wholes_id, Bool.and_eq_true, Bool.and_eq_true] at h
    have a := h.1.1
    have b := h.2
    unfold PyFlat.atMost at a
    unfold VbwsarNeutral.asked at b
    rw [Bool.and_eq_true] at b
    exact ⟨raw, rfl, of_decide_eq_true a, fun c hc => List.all_eq_true.mp b.1 c hc⟩
theorem asked_bytes {t : List Int} (h : VbwsarNeutral.asked1 [[0], t] = true) : bytesOk t := by
  have h : VbwsarNeutral.bytes t 1000 = true := h
  unfold VbwsarNeutral.bytes VbwsarNeutral.row at h
  rw [Bool.and_eq_true, Bool.and_eq_true] at h
  refine ⟨fun n hn => ?_, of_decide_eq_true h.1.1⟩
  have := List.all_eq_true.mp h.2 n hn
  rw [Bool.and_eq_true] at this
  exact ⟨of_decide_eq_true this.1, of_decide_eq_true this.2⟩
theorem told_cons (a : List Int) (r : List (List Int)) : PyFlat.told (a :: r) = ((a.length : Int) :: a) ++ PyFlat.told r := by
  unfold PyFlat.told
  rw [List.flatMap_cons]
/-- more stands beside the ground, or what stood there is changed -/
theorem GX.put {CL CG x r : Addr} {HF H : Hp} {s : Ground} {o : HO} (h : GX CL CG HF H x s) (k : (∃ u, HF r = some u) ∨ H r = none) : GX CL CG (upd HF r o) (upd H r o) x s := by
  obtain ⟨m, w, ⟨dx, l, a, b, HL, G⟩, S, f⟩ := h
  have hl : HL r = none := k.elim (fun ⟨u, e⟩ => G.dis _ _ e) (fun e => G.subL.free e)
  have ne : ∀ {c : Addr} {u : HO}, HF c = none → H c = some u → c ≠ r := fun {c u} e1 e2 z => by
    subst z
    rcases k with ⟨v, e⟩ | e
    · rw [e1] at e
      cases e
    · rw [e2] at e
      cases e
  have nx := ne G.fx G.ins
  have na := ne G.fa G.im
  have nb := ne G.fb G.iw
  refine ⟨m, w, ⟨dx, l, a, b, HL, ⟨?_, G.lay, same_upd G.subL hl, fun c u e => ?_, fun c u e => ?_, ?_, ?_, G.ab, ?_, ?_, ?_, G.la, G.lb, G.lx, G.ml, G.wl, G.sz, G.w8, G.m5, G.most⟩⟩, S, f⟩
  · rw [upd_ne nx]
    exact G.ins
  · by_cases z : c = r
    · subst z
      rw [upd_same] at e ⊢
      exact e
    · rw [upd_ne z] at e ⊢
      exact G.subF _ _ e
  · by_cases z : c = r
    · rw [z]
      exact hl
    · rw [upd_ne z] at e
      exact G.dis _ _ e
  · unfold IL
    rw [upd_ne na]
    exact G.im
  · unfold IL
    rw [upd_ne nb]
    exact G.iw
  · rw [upd_ne na]
    exact G.fa
  · rw [upd_ne nb]
    exact G.fb
  · rw [upd_ne nx]
    exact G.fx
theorem at_vi2 {l : List Int} {k : Nat} {z : Int} (h : l[k]? = some z) : atI (vi l) (k : Int) = some (V.int z) := at_of rfl (by
  rw [List.getElem?_map, h]
  rfl)
theorem cut_vi {cs : List Int} {i n : Nat} (h : i + n ≤ cs.length) : cutV (vi cs) (some (i : Int)) (some ((i + n : Nat) : Int)) = vi ((cs.drop i).take n) := by
  rw [cut_nat (by omega) (by rw [List.length_map]; exact h), Nat.add_sub_cancel_left, ← List.map_drop, ← List.map_take]
/-- a call of the def that a slot holds -/
def tCallH (P : Program) (w : World) (K : PySem.W.Frag) (mg : Str → Option Value) (base : Heap) (k i : Nat) (t : TA) : TE := fun σ H Q => ∃ f sp, σ[i]? = some (some (V.ref f)) ∧ Held P w K mg base k f sp ∧ t σ H fun vs H1 => sp vs H1 Q E0
theorem pe_callH {X : Cx} {k i : Nat} {x : Str} {p pos : Pos} {e : Expr} {es : List Expr} {t : TA} (hr : Room k X.A) (hN : X.N[i]? = some x) (hv : Vis X.env.scope x) (ha : PA X (e :: es) t)
    (hdb : (x == ("__debug__" : Str)) = false := by decide) (hcd : (x == ("__classdict__" : Str)) = false := by decide)
    (he : starEach (e :: es) X.env = (false, eval e X.env) :: starEach es X.env := by rfl) (hpl : (backTo pos (starEach es X.env)).any (·.1) = false := by rfl) : PE X (.Call (.Name x p) (e :: es) [] pos) (tCallH X.prog X.w X.K X.mg X.base k i t) :=
  ⟨fun pins s σ H Q I h => by
    obtain ⟨f, sp, hs, hd, ht⟩ := h
    refine (pe_callA (i := i) (S := fun g => if g = f then some sp else none) (fun g sp' z => ?_) hr hN hv ha hdb hcd he hpl).run pins s σ H Q I ⟨f, sp, hs, if_pos rfl, ht⟩
    by_cases c : g = f
    · subst c
      rw [if_pos rfl] at z
      rw [← Option.some.inj z]
      exact hd
    · rw [if_neg c] at z
      cases z⟩
end Gr
set_option Elab.async false
set_option linter.all false
set_option maxRecDepth 100000
set_option maxHeartbeats 4000000
namespace Gr
open PySem PySem.Spec PyProof.Rows L2
open Vbwsar (Ground)
/-! # answers -/
abbrev sAns : Stmt := top 69
abbrev NAns : List Str := ["calls", "ground", "told", "at", "start", "length", "answer", "one"]
theorem scAns : FnScope NAns ["calls"] (defScope sAns) := ⟨rfl, rfl, rfl, by decide +kernel, rfl, by decide +kernel, by decide +kernel⟩
/-- the table of calls: what stands in it for each number -/
structure CallsT (P : Program) (w : World) (K : PySem.W.Frag) (mg : Str → Option Value) (base : Heap) (CL CG aC : Addr) : Prop where
  row : ∀ i : Nat, 1 ≤ i → i ≤ 14 → ∃ t f, KIt K aC (i : Int) (.ref t) ∧ KPair K t (argN i : Int) f ∧ Held P w K mg base 7 f (spAns CL CG (fun ns => [(i : Int) :: ns]) fun ns => ns.length = argN i)
def spTop (K : PySem.W.Frag) : Sp := fun vs H Q _ => ∃ (a : Addr) (cs : List Int), vs = [.ref a] ∧ SqL K H a (vi cs) ∧ PyVbwsar.answers_asked cs = true ∧ cs.length ≤ 30000 ∧
  ∀ (H' : Hp) (p : Addr), H' p = some (.lst (vi (PyVbwsar.answers cs))) → Q (.ref p) H'
/-- behind some calls -/
structure AInv (cs : List Int) (i : Nat) (s : Ground) (T : List Int) (raw : List (List (List Int))) : Prop where
  le : i ≤ cs.length
  dec : ∃ f, PyFlat.calls PyVbwsar.shape f (cs.drop i) = some raw
  ask : ∀ c ∈ raw, VbwsarNeutral.asked1 c = true
  eq : T ++ PyFlat.told (PyFlat.played VbwsarNeutral.step s raw) = PyVbwsar.answers cs
  few : T.length + 3001 * raw.length ≤ 600200
theorem AInv.next {cs : List Int} {i j : Nat} {s : Ground} {T : List Int} {c : List (List Int)} {raw : List (List (List Int))} (h : AInv cs i s T (c :: raw)) (hj : j ≤ cs.length) (d : ∃ f, PyFlat.calls PyVbwsar.shape f (cs.drop j) = some raw) (l : (VbwsarNeutral.step s c).2.length ≤ 3000) :
    AInv cs j (VbwsarNeutral.step s c).1 ((T ++ [((VbwsarNeutral.step s c).2.length : Int)]) ++ (VbwsarNeutral.step s c).2) raw := by
  refine ⟨hj, d, fun c' hc => h.ask c' (List.mem_cons_of_mem _ hc), ?_, ?_⟩
  · rw [← h.eq]
    show _ = T ++ PyFlat.told ((VbwsarNeutral.step s c).2 :: PyFlat.played VbwsarNeutral.step (VbwsarNeutral.step s c).1 raw)
    rw [told_cons, List.append_assoc, List.append_assoc]
    rfl
  · have := h.few
    rw [List.length_cons] at this
    rw [List.length_append, List.length_append]
    show T.length + 1 + _ + _ ≤ _
    omega
section
variable {P : Program} {w : World} {K : PySem.W.Frag} {mg : Str → Option Value} {base : Heap} {CL CG aC fT : Addr}
theorem ok_answers {f fI fC fA fN fL fB fP fR fO fG : Addr} {fd fdI fdC fdA fdN fdL fdB fdP fdR fdO fdG : FuncData} (F : Fun K "answers" "answers" sAns f fd) (T : Txt K mg CL CG) (Y : LayT K CL fI fC fA fN fL fdI fdC fdA fdN fdL) (R : GrT K CG fB fP fR fO fdB fdP fdR fdO)
    (MG : Mk K CG fG) (FG : Fun K "__init__" "Ground.__init__" sGInit fG fdG) (bG : Binds K fdG ["self"] []) (gC : mg "CALLS" = some (.ref aC)) (C : CallsT P w K mg base CL CG aC) (gT : mg "answer_text" = some (.ref fT)) (HT : Held P w K mg base 7 fT (spAns CL CG (fun ns => [[0], ns]) bytesOk)) :
    FnOk P w K mg base CX0 9 f fd ["calls"] (spTop K) := by
  have GG : FnOk P w K mg base CX0 7 fG fdG ["self"] (spGInit CL CG) := ok_ginit FG T Y R.FB R.mB R.bB
  refine F.ok scAns (fun vs H Q E h => ?_) (fun cdv A outer s H vs Q E hr h => ?_)
  · obtain ⟨_, _, rfl, _⟩ := h
    rfl
  · have hr7 : Room 7 _ := hr.mono (by decide)
    refine ⟨_, pss_cons (ps_set (i := 1) scAns.nd rfl (Or.inl rfl) (pe_make0 MG GG hr rfl T.gG bG .nil pass0))
      (pss_cons (ps_set (i := 2) scAns.nd rfl (Or.inl rfl) (pe_lst pa_nil))
      (pss_cons (ps_set (i := 3) scAns.nd rfl (Or.inl rfl) pe_int)
      (pss_cons (ps_while PassesOwn.never (pt_cmpR op_lt (pv 3) (pe_callB call_len_seq (by rfl) T.nlen PySem.boot_len (pa_cons (pv 0) pa_nil)) (nomark _))
        (Evl.pss_cut (ps_if (pt_cmpR op_eq (pe_ix ix_list (pv 0) (pv 3) (fun _ _ => rfl)) (pe_gi T.gTEXT) (nomark _))
            (pss_cons (ps_set (i := 4) scAns.nd rfl (Or.inl rfl) (pe_op op_add (pv 3) pe_int))
            (pss_cons (ps_set (i := 5) scAns.nd rfl (Or.inl rfl) (pe_ix ix_list (pv 0) (pe_op op_add (pv 3) pe_int) (fun _ _ => rfl)))
            (pss_one (ps_set (i := 6) scAns.nd rfl (Or.inl rfl) (pe_glob (v := .ref fT) rfl gT rfl)))))
            (pss_cons (ps_set (i := 4) scAns.nd rfl (Or.inl rfl) (pe_op op_add (pv 3) pe_int))
            (pss_one (ps_asg (pe_ix ix_kdI (pe_glob (v := .ref aC) rfl gC rfl) (pe_ix ix_list (pv 0) (pv 3) (fun _ _ => rfl)) (fun _ _ => rfl)) (pg_tup (by rfl) (pgs_cons (pg_name (i := 5) scAns.nd rfl (Or.inl rfl)) (pgs_cons (pg_name (i := 6) scAns.nd rfl (Or.inl rfl)) pgs_nil)))))))
        (pss_cons (ps_set (i := 3) scAns.nd rfl (Or.inl rfl) (pe_op op_add (pv 4) (pv 5)))
        (pss_cons (ps_set (i := 7) scAns.nd rfl (Or.inl rfl) (pe_callH (i := 6) hr7 rfl (.inl rfl) (pa_cons (pv 1) (pa_cons (pe_slice sl_list (pv 0) (po_some (pv 4)) (po_some (pv 3))) pa_nil))))
        (pss_cons (ps_expr (pe_bm PySem.F.plainAttrs_list PySem.F.slot_list_append PySem.F.type_list_append mt_append (pv 2) (pa_cons (pe_callB call_len_seq (by rfl) T.nlen PySem.boot_len (pa_cons (pv 7) pa_nil)) pa_nil)))
        (pss_one (ps_expr (pe_bm PySem.F.plainAttrs_list PySem.F.slot_list_extend PySem.F.type_list_extend mt_extend (pv 2) (pa_cons (pv 7) pa_nil)))))))))
      (pss_one (ps_ret (pv 2)))))), ?_⟩
    obtain ⟨a, cs, rfl, ha, hask, hlen, q⟩ := h
    obtain ⟨raw0, dec0, few0, ask0⟩ := asked_is hask
    intro x dx nx ndx nex
    have sM : Same H (upd (upd H dx (.own x)) x (.ins CG dx [])) := (same_new ndx).trans (same_new (by rw [upd_ne nex.symm]; exact nx))
    have sB : Same H (but (upd (upd H dx (.own x)) x (.ins CG dx [])) x) := fun c o e => by
      unfold but
      rw [if_neg (ne_of_none e nx)]
      exact sM _ _ e
    refine ⟨x, dx, rfl, upd_same, fun H1 G1 => ⟨rfl, ?_⟩⟩
    have X1 : GX CL CG (but (upd (upd H dx (.own x)) x (.ins CG dx [])) x) H1 x Vbwsar.start := ⟨[], [], G1, start_is, .inl ⟨rfl, rfl, rfl⟩⟩
    generalize but (upd (upd H dx (.own x)) x (.ins CG dx [])) x = HF0 at sB X1
    refine ⟨(by show 0 ≤ sizeLine; decide), fun to hto => ?_⟩
    have nto : H to = none := sB.free (X1.frame.free hto)
    have X2 := X1.put (o := .lst []) (.inr hto)
    have sB2 : Same H (upd HF0 to (.lst [])) := same_upd sB nto
    refine while_by (fun σ H' => ∃ (i : Nat) (s : Ground) (TT : List Int) (raw : List (List (List Int))) (HF : Hp) (c4 c5 c6 c7 : Option V), σ = [some (.ref a), some (.ref x), some (.ref to), some (.int (i : Int)), c4, c5, c6, c7] ∧ AInv cs i s TT raw ∧ GX CL CG HF H' x s ∧ Same H HF ∧ HF to = some (.lst (vi TT)))
      (fun σ _ => cs.length - slotN σ 3) ⟨0, _, [], raw0, _, _, _, _, _, rfl, ⟨Nat.zero_le _, ⟨_, dec0⟩, ask0, (answers_is dec0).symm, by show 0 + _ ≤ _; omega⟩, X2, sB2, upd_same⟩ ?_ ?_
    · rintro σ H3 ⟨i, s, TT, raw, HF, c4, c5, c6, c7, rfl, I, X, sF, eT⟩
      have s3 : Same H H3 := sF.trans X.frame
      have sq := s3.seq ha
      refine ⟨_, rfl, _, rfl, a, _, rfl, .inl sq, _, _, rfl, rfl, _, rfl, ?_⟩
      rw [show (vi cs).length = cs.length from List.length_map .., int_lt]
      by_cases c : i < cs.length
      · rw [decide_eq_true c]
        refine iteT ?_
        obtain ⟨p, ep⟩ : ∃ p, cs[i]? = some p := ⟨_, List.getElem?_eq_getElem c⟩
        have dp : cs.drop i = p :: cs.drop (i + 1) := by
          rw [List.drop_eq_getElem_cons c]
          rw [List.getElem?_eq_getElem c] at ep
          rw [Option.some.inj ep]
        obtain ⟨f0, df⟩ := I.dec
        rw [dp] at df
        obtain ⟨f', c0, t, raw', hc, hd, rfl⟩ := calls_is df
        refine ⟨fun σ' H' => H' = H3 ∧ ∃ (st n : Nat) (fa : Addr) (cf : List Int → List (List Int)) (okf : List Int → Prop), σ' = [some (.ref a), some (.ref x), some (.ref to), some (.int (i : Int)), some (.int (st : Int)), some (.int (n : Int)), some (.ref fa), c7] ∧ i < st ∧ st + n ≤ cs.length ∧ t = cs.drop (st + n) ∧
          Held P w K mg base 7 fa (spAns CL CG cf okf) ∧ cf ((cs.drop st).take n) = c0 ∧ okf ((cs.drop st).take n), ?_, ?_⟩
        · refine ⟨_, rfl, _, rfl, a, _, i, _, rfl, rfl, sq, at_vi2 ep, rfl, _, rfl, ?_⟩
          have asked := I.ask c0 (List.mem_cons_self ..)
          rcases call_is hc with ⟨rfl, n, r', er, rn, rfl, rfl⟩ | ⟨j, j1, j2, rfl, jr, rfl, rfl⟩
          · have g1 : cs[i + 1]? = some (n : Int) := by
              have z : (cs.drop (i + 1))[0]? = some (n : Int) := by rw [er]; rfl
              rw [List.getElem?_drop] at z
              exact z
            have d2 : cs.drop (i + 2) = r' := by
              have z : (cs.drop (i + 1)).drop 1 = r' := by rw [er]; rfl
              rw [List.drop_drop] at z
              exact z
            have ln : (cs.drop (i + 1)).length = r'.length + 1 := by rw [er]; rfl
            rw [List.length_drop] at ln
            refine iteT ⟨_, rfl, _, _, rfl, rfl, ?_⟩
            refine ⟨_, rfl, _, rfl, _, _, rfl, rfl, a, _, _, _, rfl, rfl, sq, at_vi2 (k := i + 1) g1, ?_⟩
            refine ⟨rfl, i + 2, n, fT, _, _, rfl, by omega, by omega, ?_, HT, ?_, ?_⟩
            · rw [← d2, List.drop_drop]
            · rw [d2]
            · rw [d2]
              exact asked_bytes asked
          · rw [int_eq0, show (j == 0) = false from beq_eq_false_iff_ne.mpr (by omega)]
            obtain ⟨tt, fa, kit, kp, hh⟩ := C.row j j1 j2
            rw [List.length_drop] at jr
            refine iteF ⟨_, rfl, _, _, rfl, rfl, ?_⟩
            refine ⟨_, rfl, _, rfl, a, _, _, _, rfl, rfl, sq, at_vi2 ep, aC, _, _, rfl, rfl, kit, tt, _, rfl, kp.sq, rfl, _, _, rfl, _, _, rfl, rfl, ?_⟩
            refine ⟨rfl, i + 1, argN j, fa, _, _, rfl, by omega, by omega, ?_, hh, rfl, ?_⟩
            · rw [List.drop_drop]
            · rw [List.length_take, List.length_drop]
              omega
        · rintro σ' H' ⟨rfl, st, n, fa, cf, okf, rfl, ist, sn, et, hh, ec, ok⟩
          refine ⟨_, rfl, _, rfl, _, _, rfl, rfl, ?_⟩
          have cv : cutV (vi cs) (some (st : Int)) (some ((st : Int) + (n : Int))) = vi ((cs.drop st).take n) := by
            rw [← Int.natCast_add]
            exact cut_vi sn
          refine ⟨fa, _, rfl, hh, _, rfl, _, rfl, _, rfl, _, rfl, _, rfl, _, rfl, a, _, rfl, sq, fun y hy => ?_⟩
          rw [cv]
          generalize (cs.drop st).take n = sl at *
          have X4 := X.put (o := .lst (vi sl)) (.inr hy)
          have ty : to ≠ y := ne_of_none (X.frame _ _ eT) hy
          have eT4 : (upd HF y (.lst (vi sl))) to = some (.lst (vi TT)) := by
            rw [upd_ne ty]
            exact eT
          have sF4 : Same H (upd HF y (.lst (vi sl))) := same_upd sF (s3.free hy)
          refine ⟨_, x, y, s, sl, rfl, X4, upd_same, ok, fun H5 u X5 np e5 l5 => ?_⟩
          rw [ec] at X5 e5 l5
          have In := I.next sn ⟨f', by rw [← et]; exact hd⟩ l5
          generalize upd HF y (.lst (vi sl)) = HF4 at *
          generalize VbwsarNeutral.step s c0 = so at *
          have f5 := X5.frame _ _ eT4
          have ut : u ≠ to := fun z => by
            rw [z, eT4] at np
            cases np
          have few := I.few
          have line : ∀ n, n ≤ 700000 → n < sizeLine := fun n h => Nat.lt_of_le_of_lt h (by decide)
          refine ⟨_, rfl, .inl ⟨rfl, _, SqL.of f5⟩, _, rfl, u, _, rfl, .inl (SqL.of e5), to, _, _, rfl, rfl, f5, ?_, ?_⟩
          · rw [List.length_map]
            exact line _ (by omega)
          have X6 := X5.put (o := .lst (vi TT ++ [V.int ((vi so.2).length : Int)])) (.inl ⟨_, eT4⟩)
          refine ⟨_, rfl, .inl ⟨rfl, _, SqL.of upd_same⟩, _, rfl, to, u, _, _, rfl, rfl, upd_same, (by rw [upd_ne ut]; exact e5), ?_, ?_⟩
          · rw [List.length_append, List.length_map, List.length_map]
            exact Nat.le_of_lt (line _ (by show TT.length + 1 + so.2.length ≤ _; omega))
          have X7 := X6.put (o := .lst ((vi TT ++ [V.int ((vi so.2).length : Int)]) ++ vi so.2)) (.inl ⟨_, upd_same⟩)
          refine ⟨⟨st + n, so.1, _, raw', _, _, _, _, _, rfl, In, X7, same_upd (same_upd sF4 nto) nto, ?_⟩, ?_⟩
          · rw [upd_same, List.length_map]
            show _ = some (HO.lst (((TT ++ [(so.2.length : Int)]) ++ so.2).map V.int))
            rw [List.map_append, List.map_append]
            rfl
          · show cs.length - ((st : Int) + (n : Int)).toNat < cs.length - ((i : Int)).toNat
            omega
      · rw [decide_eq_false c]
        refine iteF ⟨_, rfl, q H3 to ?_⟩
        obtain ⟨f, df⟩ := I.dec
        rw [List.drop_eq_nil_of_le (by omega)] at df
        have e := I.eq
        rw [calls_nil df] at e
        have e2 : TT = PyVbwsar.answers cs := by
          rw [← e]
          exact (List.append_nil _).symm
        rw [← e2]
        exact X.frame _ _ eT
    · intro σ H Q Q' hq ⟨v1, h1, v2, h2, p, xs, e1, e2, i, j, e3, e4, k, e5, r⟩
      exact ⟨v1, h1, v2, h2, p, xs, e1, e2, i, j, e3, e4, k, e5, hq _ _ r⟩
end
end Gr
set_option Elab.async false
set_option linter.all false
set_option maxRecDepth 100000
set_option maxHeartbeats 8000000
namespace Gr
open PySem PySem.Spec PyProof.Rows L2
open Vbwsar (Ground)
/-! # What the top has written, gathered -/
theorem all_mk {P : Program} {w : World} {K : PySem.W.Frag} {h : Heap} {mg : Str → Option Value} {fa : Addr} (X : K.In h) (G : h.Ns mainGlobals mg) (hfa : mg "answers" = some (.ref fa))
    {CL CG aC aS f0 f1 f2 f3 f4 f5 f6 f7 f8 f9 f10 f11 f12 f13 f14 f15 f16 f17 f18 f19 f20 f21 f22 f23 f24 f25 f26 f27 f28 f29 f30 f31 f32 f33 f34 f35 f36 f37 f38 f39 f40 f41 f42 f43 f44 f45 f46 f47 f48 f49 f50 f51 e1 e2 e3 e4 e5 e6 e7 e8 e9 e10 e11 e12 e13 e14 : Addr} {od0 an0 od1 an1 od2 an2 od3 an3 od4 an4 od5 an5 od6 an6 od7 an7 od8 an8 od9 an9 od10 an10 od11 an11 od12 an12 od13 an13 od14 an14 od15 an15 od16 an16 od17 an17 od18 an18 od19 an19 od20 an20 od21 an21 od22 an22 od23 an23 od24 an24 od25 an25 od26 an26 od27 an27 od28 an28 od29 an29 od30 an30 od31 an31 od32 an32 od33 an33 od34 an34 od35 an35 od36 an36 od37 an37 od38 an38 od39 an39 od40 an40 od41 an41 od42 an42 od43 an43 od44 an44 od45 an45 od46 an46 od47 an47 od48 an48 od49 an49 od50 an50 od51 an51 ddS dd1 dd2 dd3 dd4 dd5 dd6 dd7 dd8 dd9 dd10 dd11 dd12 dd13 dd14 : Option Addr} {sl0 sl1 sl2 sl3 sl4 sl5 sl6 sl7 sl8 sl9 sl10 sl11 sl12 sl13 sl14 sl15 sl16 sl17 sl18 sl19 sl20 sl21 sl22 sl23 sl24 sl25 sl26 sl27 sl28 sl29 sl30 sl31 sl32 sl33 sl34 sl35 sl36 sl37 sl38 sl39 sl40 sl41 sl42 sl43 sl44 sl45 sl46 sl47 sl48 sl49 sl50 sl51 slS sx1 sx2 sx3 sx4 sx5 sx6 sx7 sx8 sx9 sx10 sx11 sx12 sx13 sx14 : Array (Option Value)} {oc0 kV0 dc0 pm0 cd0 ct0 oc1 kV1 dc1 pm1 cd1 ct1 oc2 kV2 dc2 pm2 cd2 ct2 oc3 kV3 dc3 pm3 cd3 ct3 oc4 kV4 dc4 pm4 cd4 ct4 oc5 kV5 dc5 pm5 cd5 ct5 oc6 kV6 dc6 pm6 cd6 ct6 oc7 kV7 dc7 pm7 cd7 ct7 oc8 kV8 dc8 pm8 cd8 ct8 oc9 kV9 dc9 pm9 cd9 ct9 oc10 kV10 dc10 pm10 cd10 ct10 oc11 kV11 dc11 pm11 cd11 ct11 oc12 kV12 dc12 pm12 cd12 ct12 oc13 kV13 dc13 pm13 cd13 ct13 oc14 kV14 dc14 pm14 cd14 ct14 oc15 kV15 dc15 pm15 cd15 ct15 oc16 kV16 dc16 pm16 cd16 ct16 oc17 kV17 dc17 pm17 cd17 ct17 oc18 kV18 dc18 pm18 cd18 ct18 oc19 kV19 dc19 pm19 cd19 ct19 oc20 kV20 dc20 pm20 cd20 ct20 oc21 kV21 dc21 pm21 cd21 ct21 oc22 kV22 dc22 pm22 cd22 ct22 oc23 kV23 dc23 pm23 cd23 ct23 oc24 kV24 dc24 pm24 cd24 ct24 oc25 kV25 dc25 pm25 cd25 ct25 oc26 kV26 dc26 pm26 cd26 ct26 oc27 kV27 dc27 pm27 cd27 ct27 oc28 kV28 dc28 pm28 cd28 ct28 oc29 kV29 dc29 pm29 cd29 ct29 oc30 kV30 dc30 pm30 cd30 ct30 oc31 kV31 dc31 pm31 cd31 ct31 oc32 kV32 dc32 pm32 cd32 ct32 oc33 kV33 dc33 pm33 cd33 ct33 oc34 kV34 dc34 pm34 cd34 ct34 oc35 kV35 dc35 pm35 cd35 ct35 oc36 kV36 dc36 pm36 cd36 ct36 oc37 kV37 dc37 pm37 cd37 ct37 oc38 kV38 dc38 pm38 cd38 ct38 oc39 kV39 dc39 pm39 cd39 ct39 oc40 kV40 dc40 pm40 cd40 ct40 oc41 kV41 dc41 pm41 cd41 ct41 oc42 kV42 dc42 pm42 cd42 ct42 oc43 kV43 dc43 pm43 cd43 ct43 oc44 kV44 dc44 pm44 cd44 ct44 oc45 kV45 dc45 pm45 cd45 ct45 oc46 kV46 dc46 pm46 cd46 ct46 oc47 kV47 dc47 pm47 cd47 ct47 oc48 kV48 dc48 pm48 cd48 ct48 oc49 kV49 dc49 pm49 cd49 ct49 oc50 kV50 dc50 pm50 cd50 ct50 oc51 kV51 dc51 pm51 cd51 ct51 : Value} {t0 t1 t2 t3 t4 t5 t6 t7 t8 t9 t10 t11 t12 t13 t14 t15 t16 t17 q0 q1 q2 q3 q4 q5 w1 w2 w3 w4 w5 w6 w7 w8 w9 w10 w11 w12 w13 w14 : Tok} {mS nC m1 m2 m3 m4 m5 m6 m7 m8 m9 m10 m11 m12 m13 m14 : Nat} {es : Array DictEntry}
    (u0 : PySem.W.nsIn K mainGlobals "AIR" = some (some (.int 0 t0)))
    (u1 : PySem.W.nsIn K mainGlobals "STONE" = some (some (.int 1 t1)))
    (u2 : PySem.W.nsIn K mainGlobals "SAND" = some (some (.int 2 t2)))
    (u3 : PySem.W.nsIn K mainGlobals "LAMP" = some (some (.int 3 t3)))
    (u4 : PySem.W.nsIn K mainGlobals "GLASS" = some (some (.int 4 t4)))
    (u5 : PySem.W.nsIn K mainGlobals "WOOD" = some (some (.int 5 t5)))
    (u6 : PySem.W.nsIn K mainGlobals "FULL" = some (some (.int 8 t6)))
    (u7 : PySem.W.nsIn K mainGlobals "LONGEST_SIDE" = some (some (.int 12 t7)))
    (u8 : PySem.W.nsIn K mainGlobals "MOST_CELLS" = some (some (.int 600 t8)))
    (u9 : PySem.W.nsIn K mainGlobals "ROW_END" = some (some (.int 10 t9)))
    (u10 : PySem.W.nsIn K mainGlobals "NO_WATER" = some (some (.int 48 t10)))
    (u11 : PySem.W.nsIn K mainGlobals "MOST_WATER" = some (some (.int 8 t11)))
    (u12 : PySem.W.nsIn K mainGlobals "HOLDING_STEPS" = some (some (.int 4 t12)))
    (u13 : PySem.W.nsIn K mainGlobals "SKY_LIGHT" = some (some (.int 15 t13)))
    (u14 : PySem.W.nsIn K mainGlobals "LAMP_LIGHT" = some (some (.int 14 t14)))
    (u15 : PySem.W.nsIn K mainGlobals "TEXT" = some (some (.int 0 t15)))
    (u16 : PySem.W.nsIn K mainGlobals "MOST_TICKS" = some (some (.int 50 t16)))
    (u17 : PySem.W.nsIn K mainGlobals "MOST_SETTLING" = some (some (.int 200 t17)))
    (n0 : PySem.W.nsIn K mainGlobals "any" = some none)
    (n1 : PySem.W.nsIn K mainGlobals "len" = some none)
    (n2 : PySem.W.nsIn K mainGlobals "range" = some none)
    (n3 : PySem.W.nsIn K mainGlobals "min" = some none)
    (n4 : PySem.W.nsIn K mainGlobals "max" = some none)
    (n5 : PySem.W.nsIn K mainGlobals "sum" = some none)
    (n6 : PySem.W.nsIn K mainGlobals "list" = some none)
    (n7 : PySem.W.nsIn K mainGlobals "tuple" = some none)
    (n8 : PySem.W.nsIn K mainGlobals "enumerate" = some none)
    (aL : PySem.W.nsIn K mainGlobals "Layout" = some (some (.ref CL)))
    (aG : PySem.W.nsIn K mainGlobals "Ground" = some (some (.ref CG)))
    (pgL : PySem.W.plainGet K CL Str.empty = true)
    (hdL : PySem.W.hasDictIn K CL = true)
    (poL : PySem.W.plainOver K CL = true)
    (saL : PySem.W.findIn K (.ref CL) "__setattr__" = some (some (.builtin "object.__setattr__")))
    (mkL : PySem.W.makesIn K CL = true)
    (kcL : PySem.W.keepIn K (.ref CL) = true)
    (pgG : PySem.W.plainGet K CG Str.empty = true)
    (hdG : PySem.W.hasDictIn K CG = true)
    (poG : PySem.W.plainOver K CG = true)
    (saG : PySem.W.findIn K (.ref CG) "__setattr__" = some (some (.builtin "object.__setattr__")))
    (mkG : PySem.W.makesIn K CG = true)
    (kcG : PySem.W.keepIn K (.ref CG) = true)
    (v0 : PySem.W.findIn K (.ref CL) "sides" = some none)
    (v1 : PySem.W.findIn K (.ref CL) "layer_size" = some none)
    (v2 : PySem.W.findIn K (.ref CL) "below" = some none)
    (v3 : PySem.W.findIn K (.ref CL) "beside" = some none)
    (v4 : PySem.W.findIn K (.ref CL) "about" = some none)
    (v5 : PySem.W.findIn K (.ref CG) "layout" = some none)
    (v6 : PySem.W.findIn K (.ref CG) "materials" = some none)
    (v7 : PySem.W.findIn K (.ref CG) "water" = some none)
    (v8 : PySem.W.findIn K (.ref CG) "ticks" = some none)
    (a0 : PySem.W.nsIn K mainGlobals "fits" = some (some (.ref f0)))
    (l0 : K.lookup f0 = some ⟨oc0, od0, .func (PySem.W.fnOf "fits" "fits" (defArgs sFits) (defBody sFits) (defScope sFits) .none kV0 dc0 pm0 an0 cd0 ct0), sl0⟩)
    (c0 : PySem.W.codeIn K cd0 "fits" = true)
    (k0 : PySem.W.keepIn K (.ref f0) = true)
    (a1 : PySem.W.nsIn K mainGlobals "room_in" = some (some (.ref f1)))
    (l1 : K.lookup f1 = some ⟨oc1, od1, .func (PySem.W.fnOf "room_in" "room_in" (defArgs sRoom) (defBody sRoom) (defScope sRoom) .none kV1 dc1 pm1 an1 cd1 ct1), sl1⟩)
    (c1 : PySem.W.codeIn K cd1 "room_in" = true)
    (k1 : PySem.W.keepIn K (.ref f1) = true)
    (a2 : PySem.W.nsIn K mainGlobals "is_clear" = some (some (.ref f2)))
    (l2 : K.lookup f2 = some ⟨oc2, od2, .func (PySem.W.fnOf "is_clear" "is_clear" (defArgs sClear) (defBody sClear) (defScope sClear) .none kV2 dc2 pm2 an2 cd2 ct2), sl2⟩)
    (c2 : PySem.W.codeIn K cd2 "is_clear" = true)
    (k2 : PySem.W.keepIn K (.ref f2) = true)
    (a3 : PySem.W.nsIn K mainGlobals "open_cells" = some (some (.ref f3)))
    (l3 : K.lookup f3 = some ⟨oc3, od3, .func (PySem.W.fnOf "open_cells" "open_cells" (defArgs sOpen) (defBody sOpen) (defScope sOpen) .none kV3 dc3 pm3 an3 cd3 ct3), sl3⟩)
    (c3 : PySem.W.codeIn K cd3 "open_cells" = true)
    (k3 : PySem.W.keepIn K (.ref f3) = true)
    (a4 : PySem.W.nsIn K mainGlobals "own_light" = some (some (.ref f4)))
    (l4 : K.lookup f4 = some ⟨oc4, od4, .func (PySem.W.fnOf "own_light" "own_light" (defArgs sOwn) (defBody sOwn) (defScope sOwn) .none kV4 dc4 pm4 an4 cd4 ct4), sl4⟩)
    (c4 : PySem.W.codeIn K cd4 "own_light" = true)
    (k4 : PySem.W.keepIn K (.ref f4) = true)
    (a5 : PySem.W.nsIn K mainGlobals "own_lights" = some (some (.ref f5)))
    (l5 : K.lookup f5 = some ⟨oc5, od5, .func (PySem.W.fnOf "own_lights" "own_lights" (defArgs sOwns) (defBody sOwns) (defScope sOwns) .none kV5 dc5 pm5 an5 cd5 ct5), sl5⟩)
    (c5 : PySem.W.codeIn K cd5 "own_lights" = true)
    (k5 : PySem.W.keepIn K (.ref f5) = true)
    (a6 : PySem.W.nsIn K mainGlobals "lights" = some (some (.ref f6)))
    (l6 : K.lookup f6 = some ⟨oc6, od6, .func (PySem.W.fnOf "lights" "lights" (defArgs sLights) (defBody sLights) (defScope sLights) .none kV6 dc6 pm6 an6 cd6 ct6), sl6⟩)
    (c6 : PySem.W.codeIn K cd6 "lights" = true)
    (k6 : PySem.W.keepIn K (.ref f6) = true)
    (a7 : PySem.W.nsIn K mainGlobals "trail_from" = some (some (.ref f7)))
    (l7 : K.lookup f7 = some ⟨oc7, od7, .func (PySem.W.fnOf "trail_from" "trail_from" (defArgs sTrail) (defBody sTrail) (defScope sTrail) .none kV7 dc7 pm7 an7 cd7 ct7), sl7⟩)
    (c7 : PySem.W.codeIn K cd7 "trail_from" = true)
    (k7 : PySem.W.keepIn K (.ref f7) = true)
    (a8 : PySem.W.nsIn K mainGlobals "layers_of" = some (some (.ref f8)))
    (l8 : K.lookup f8 = some ⟨oc8, od8, .func (PySem.W.fnOf "layers_of" "layers_of" (defArgs sLayers) (defBody sLayers) (defScope sLayers) .none kV8 dc8 pm8 an8 cd8 ct8), sl8⟩)
    (c8 : PySem.W.codeIn K cd8 "layers_of" = true)
    (k8 : PySem.W.keepIn K (.ref f8) = true)
    (a9 : PySem.W.nsIn K mainGlobals "is_even" = some (some (.ref f9)))
    (l9 : K.lookup f9 = some ⟨oc9, od9, .func (PySem.W.fnOf "is_even" "is_even" (defArgs sEven) (defBody sEven) (defScope sEven) .none kV9 dc9 pm9 an9 cd9 ct9), sl9⟩)
    (c9 : PySem.W.codeIn K cd9 "is_even" = true)
    (k9 : PySem.W.keepIn K (.ref f9) = true)
    (a10 : PySem.W.nsIn K mainGlobals "sides_of" = some (some (.ref f10)))
    (l10 : K.lookup f10 = some ⟨oc10, od10, .func (PySem.W.fnOf "sides_of" "sides_of" (defArgs sSidesOf) (defBody sSidesOf) (defScope sSidesOf) .none kV10 dc10 pm10 an10 cd10 ct10), sl10⟩)
    (c10 : PySem.W.codeIn K cd10 "sides_of" = true)
    (k10 : PySem.W.keepIn K (.ref f10) = true)
    (a11 : PySem.W.nsIn K mainGlobals "contents_by_sign" = some (some (.ref f11)))
    (l11 : K.lookup f11 = some ⟨oc11, od11, .func (PySem.W.fnOf "contents_by_sign" "contents_by_sign" (defArgs sConts) (defBody sConts) (defScope sConts) .none kV11 dc11 pm11 an11 cd11 ct11), sl11⟩)
    (c11 : PySem.W.codeIn K cd11 "contents_by_sign" = true)
    (k11 : PySem.W.keepIn K (.ref f11) = true)
    (a12 : PySem.W.nsIn K mainGlobals "what_is_wrong" = some (some (.ref f12)))
    (l12 : K.lookup f12 = some ⟨oc12, od12, .func (PySem.W.fnOf "what_is_wrong" "what_is_wrong" (defArgs sWrong) (defBody sWrong) (defScope sWrong) .none kV12 dc12 pm12 an12 cd12 ct12), sl12⟩)
    (c12 : PySem.W.codeIn K cd12 "what_is_wrong" = true)
    (k12 : PySem.W.keepIn K (.ref f12) = true)
    (a13 : PySem.W.nsIn K mainGlobals "read_text" = some (some (.ref f13)))
    (l13 : K.lookup f13 = some ⟨oc13, od13, .func (PySem.W.fnOf "read_text" "read_text" (defArgs sRead) (defBody sRead) (defScope sRead) .none kV13 dc13 pm13 an13 cd13 ct13), sl13⟩)
    (c13 : PySem.W.codeIn K cd13 "read_text" = true)
    (k13 : PySem.W.keepIn K (.ref f13) = true)
    (a14 : PySem.W.nsIn K mainGlobals "text_of" = some (some (.ref f14)))
    (l14 : K.lookup f14 = some ⟨oc14, od14, .func (PySem.W.fnOf "text_of" "text_of" (defArgs sText) (defBody sText) (defScope sText) .none kV14 dc14 pm14 an14 cd14 ct14), sl14⟩)
    (c14 : PySem.W.codeIn K cd14 "text_of" = true)
    (k14 : PySem.W.keepIn K (.ref f14) = true)
    (a15 : PySem.W.nsIn K mainGlobals "sign_of" = some (some (.ref f15)))
    (l15 : K.lookup f15 = some ⟨oc15, od15, .func (PySem.W.fnOf "sign_of" "sign_of" (defArgs sSign) (defBody sSign) (defScope sSign) .none kV15 dc15 pm15 an15 cd15 ct15), sl15⟩)
    (c15 : PySem.W.codeIn K cd15 "sign_of" = true)
    (k15 : PySem.W.keepIn K (.ref f15) = true)
    (a16 : PySem.W.nsIn K mainGlobals "has_foot" = some (some (.ref f16)))
    (l16 : K.lookup f16 = some ⟨oc16, od16, .func (PySem.W.fnOf "has_foot" "has_foot" (defArgs sFoot) (defBody sFoot) (defScope sFoot) .none kV16 dc16 pm16 an16 cd16 ct16), sl16⟩)
    (c16 : PySem.W.codeIn K cd16 "has_foot" = true)
    (k16 : PySem.W.keepIn K (.ref f16) = true)
    (a17 : PySem.W.nsIn K mainGlobals "held_wood" = some (some (.ref f17)))
    (l17 : K.lookup f17 = some ⟨oc17, od17, .func (PySem.W.fnOf "held_wood" "held_wood" (defArgs sHeld) (defBody sHeld) (defScope sHeld) .none kV17 dc17 pm17 an17 cd17 ct17), sl17⟩)
    (c17 : PySem.W.codeIn K cd17 "held_wood" = true)
    (k17 : PySem.W.keepIn K (.ref f17) = true)
    (a18 : PySem.W.nsIn K mainGlobals "loose_cells" = some (some (.ref f18)))
    (l18 : K.lookup f18 = some ⟨oc18, od18, .func (PySem.W.fnOf "loose_cells" "loose_cells" (defArgs sLoose) (defBody sLoose) (defScope sLoose) .none kV18 dc18 pm18 an18 cd18 ct18), sl18⟩)
    (c18 : PySem.W.codeIn K cd18 "loose_cells" = true)
    (k18 : PySem.W.keepIn K (.ref f18) = true)
    (a19 : PySem.W.nsIn K mainGlobals "let_fall" = some (some (.ref f19)))
    (l19 : K.lookup f19 = some ⟨oc19, od19, .func (PySem.W.fnOf "let_fall" "let_fall" (defArgs sFall) (defBody sFall) (defScope sFall) .none kV19 dc19 pm19 an19 cd19 ct19), sl19⟩)
    (c19 : PySem.W.codeIn K cd19 "let_fall" = true)
    (k19 : PySem.W.keepIn K (.ref f19) = true)
    (a20 : PySem.W.nsIn K mainGlobals "run_down" = some (some (.ref f20)))
    (l20 : K.lookup f20 = some ⟨oc20, od20, .func (PySem.W.fnOf "run_down" "run_down" (defArgs sDown) (defBody sDown) (defScope sDown) .none kV20 dc20 pm20 an20 cd20 ct20), sl20⟩)
    (c20 : PySem.W.codeIn K cd20 "run_down" = true)
    (k20 : PySem.W.keepIn K (.ref f20) = true)
    (a21 : PySem.W.nsIn K mainGlobals "run_aside" = some (some (.ref f21)))
    (l21 : K.lookup f21 = some ⟨oc21, od21, .func (PySem.W.fnOf "run_aside" "run_aside" (defArgs sAside) (defBody sAside) (defScope sAside) .none kV21 dc21 pm21 an21 cd21 ct21), sl21⟩)
    (c21 : PySem.W.codeIn K cd21 "run_aside" = true)
    (k21 : PySem.W.keepIn K (.ref f21) = true)
    (a22 : PySem.W.nsIn K mainGlobals "let_run" = some (some (.ref f22)))
    (l22 : K.lookup f22 = some ⟨oc22, od22, .func (PySem.W.fnOf "let_run" "let_run" (defArgs sRun) (defBody sRun) (defScope sRun) .none kV22 dc22 pm22 an22 cd22 ct22), sl22⟩)
    (c22 : PySem.W.codeIn K cd22 "let_run" = true)
    (k22 : PySem.W.keepIn K (.ref f22) = true)
    (a23 : PySem.W.nsIn K mainGlobals "behind_tick" = some (some (.ref f23)))
    (l23 : K.lookup f23 = some ⟨oc23, od23, .func (PySem.W.fnOf "behind_tick" "behind_tick" (defArgs sTick) (defBody sTick) (defScope sTick) .none kV23 dc23 pm23 an23 cd23 ct23), sl23⟩)
    (c23 : PySem.W.codeIn K cd23 "behind_tick" = true)
    (k23 : PySem.W.keepIn K (.ref f23) = true)
    (a24 : PySem.W.nsIn K mainGlobals "behind_ticks" = some (some (.ref f24)))
    (l24 : K.lookup f24 = some ⟨oc24, od24, .func (PySem.W.fnOf "behind_ticks" "behind_ticks" (defArgs sTicks) (defBody sTicks) (defScope sTicks) .none kV24 dc24 pm24 an24 cd24 ct24), sl24⟩)
    (c24 : PySem.W.codeIn K cd24 "behind_ticks" = true)
    (k24 : PySem.W.keepIn K (.ref f24) = true)
    (a25 : PySem.W.nsIn K mainGlobals "counted_places" = some (some (.ref f25)))
    (l25 : K.lookup f25 = some ⟨oc25, od25, .func (PySem.W.fnOf "counted_places" "counted_places" (defArgs sCount) (defBody sCount) (defScope sCount) .none kV25 dc25 pm25 an25 cd25 ct25), sl25⟩)
    (c25 : PySem.W.codeIn K cd25 "counted_places" = true)
    (k25 : PySem.W.keepIn K (.ref f25) = true)
    (a26 : PySem.W.nsIn K mainGlobals "answer_text" = some (some (.ref f26)))
    (l26 : K.lookup f26 = some ⟨oc26, od26, .func (PySem.W.fnOf "answer_text" "answer_text" (defArgs sAText) (defBody sAText) (defScope sAText) .none kV26 dc26 pm26 an26 cd26 ct26), sl26⟩)
    (c26 : PySem.W.codeIn K cd26 "answer_text" = true)
    (k26 : PySem.W.keepIn K (.ref f26) = true)
    (a27 : PySem.W.nsIn K mainGlobals "answer_empty" = some (some (.ref f27)))
    (l27 : K.lookup f27 = some ⟨oc27, od27, .func (PySem.W.fnOf "answer_empty" "answer_empty" (defArgs sAEmpty) (defBody sAEmpty) (defScope sAEmpty) .none kV27 dc27 pm27 an27 cd27 ct27), sl27⟩)
    (c27 : PySem.W.codeIn K cd27 "answer_empty" = true)
    (k27 : PySem.W.keepIn K (.ref f27) = true)
    (a28 : PySem.W.nsIn K mainGlobals "answer_print" = some (some (.ref f28)))
    (l28 : K.lookup f28 = some ⟨oc28, od28, .func (PySem.W.fnOf "answer_print" "answer_print" (defArgs sPrint) (defBody sPrint) (defScope sPrint) .none kV28 dc28 pm28 an28 cd28 ct28), sl28⟩)
    (c28 : PySem.W.codeIn K cd28 "answer_print" = true)
    (k28 : PySem.W.keepIn K (.ref f28) = true)
    (a29 : PySem.W.nsIn K mainGlobals "answer_place" = some (some (.ref f29)))
    (l29 : K.lookup f29 = some ⟨oc29, od29, .func (PySem.W.fnOf "answer_place" "answer_place" (defArgs sAPlace) (defBody sAPlace) (defScope sAPlace) .none kV29 dc29 pm29 an29 cd29 ct29), sl29⟩)
    (c29 : PySem.W.codeIn K cd29 "answer_place" = true)
    (k29 : PySem.W.keepIn K (.ref f29) = true)
    (a30 : PySem.W.nsIn K mainGlobals "answer_pour" = some (some (.ref f30)))
    (l30 : K.lookup f30 = some ⟨oc30, od30, .func (PySem.W.fnOf "answer_pour" "answer_pour" (defArgs sAPour) (defBody sAPour) (defScope sAPour) .none kV30 dc30 pm30 an30 cd30 ct30), sl30⟩)
    (c30 : PySem.W.codeIn K cd30 "answer_pour" = true)
    (k30 : PySem.W.keepIn K (.ref f30) = true)
    (a31 : PySem.W.nsIn K mainGlobals "answer_drain" = some (some (.ref f31)))
    (l31 : K.lookup f31 = some ⟨oc31, od31, .func (PySem.W.fnOf "answer_drain" "answer_drain" (defArgs sADrain) (defBody sADrain) (defScope sADrain) .none kV31 dc31 pm31 an31 cd31 ct31), sl31⟩)
    (c31 : PySem.W.codeIn K cd31 "answer_drain" = true)
    (k31 : PySem.W.keepIn K (.ref f31) = true)
    (a32 : PySem.W.nsIn K mainGlobals "answer_tick" = some (some (.ref f32)))
    (l32 : K.lookup f32 = some ⟨oc32, od32, .func (PySem.W.fnOf "answer_tick" "answer_tick" (defArgs sATick) (defBody sATick) (defScope sATick) .none kV32 dc32 pm32 an32 cd32 ct32), sl32⟩)
    (c32 : PySem.W.codeIn K cd32 "answer_tick" = true)
    (k32 : PySem.W.keepIn K (.ref f32) = true)
    (a33 : PySem.W.nsIn K mainGlobals "answer_settle" = some (some (.ref f33)))
    (l33 : K.lookup f33 = some ⟨oc33, od33, .func (PySem.W.fnOf "answer_settle" "answer_settle" (defArgs sASettle) (defBody sASettle) (defScope sASettle) .none kV33 dc33 pm33 an33 cd33 ct33), sl33⟩)
    (c33 : PySem.W.codeIn K cd33 "answer_settle" = true)
    (k33 : PySem.W.keepIn K (.ref f33) = true)
    (a34 : PySem.W.nsIn K mainGlobals "answer_cell" = some (some (.ref f34)))
    (l34 : K.lookup f34 = some ⟨oc34, od34, .func (PySem.W.fnOf "answer_cell" "answer_cell" (defArgs sACell) (defBody sACell) (defScope sACell) .none kV34 dc34 pm34 an34 cd34 ct34), sl34⟩)
    (c34 : PySem.W.codeIn K cd34 "answer_cell" = true)
    (k34 : PySem.W.keepIn K (.ref f34) = true)
    (a35 : PySem.W.nsIn K mainGlobals "answer_light" = some (some (.ref f35)))
    (l35 : K.lookup f35 = some ⟨oc35, od35, .func (PySem.W.fnOf "answer_light" "answer_light" (defArgs sALight) (defBody sALight) (defScope sALight) .none kV35 dc35 pm35 an35 cd35 ct35), sl35⟩)
    (c35 : PySem.W.codeIn K cd35 "answer_light" = true)
    (k35 : PySem.W.keepIn K (.ref f35) = true)
    (a36 : PySem.W.nsIn K mainGlobals "answer_trail" = some (some (.ref f36)))
    (l36 : K.lookup f36 = some ⟨oc36, od36, .func (PySem.W.fnOf "answer_trail" "answer_trail" (defArgs sATrail) (defBody sATrail) (defScope sATrail) .none kV36 dc36 pm36 an36 cd36 ct36), sl36⟩)
    (c36 : PySem.W.codeIn K cd36 "answer_trail" = true)
    (k36 : PySem.W.keepIn K (.ref f36) = true)
    (a37 : PySem.W.nsIn K mainGlobals "answer_count" = some (some (.ref f37)))
    (l37 : K.lookup f37 = some ⟨oc37, od37, .func (PySem.W.fnOf "answer_count" "answer_count" (defArgs sACount) (defBody sACount) (defScope sACount) .none kV37 dc37 pm37 an37 cd37 ct37), sl37⟩)
    (c37 : PySem.W.codeIn K cd37 "answer_count" = true)
    (k37 : PySem.W.keepIn K (.ref f37) = true)
    (a38 : PySem.W.nsIn K mainGlobals "answer_held" = some (some (.ref f38)))
    (l38 : K.lookup f38 = some ⟨oc38, od38, .func (PySem.W.fnOf "answer_held" "answer_held" (defArgs sAHeld) (defBody sAHeld) (defScope sAHeld) .none kV38 dc38 pm38 an38 cd38 ct38), sl38⟩)
    (c38 : PySem.W.codeIn K cd38 "answer_held" = true)
    (k38 : PySem.W.keepIn K (.ref f38) = true)
    (a39 : PySem.W.nsIn K mainGlobals "answer_dark" = some (some (.ref f39)))
    (l39 : K.lookup f39 = some ⟨oc39, od39, .func (PySem.W.fnOf "answer_dark" "answer_dark" (defArgs sADark) (defBody sADark) (defScope sADark) .none kV39 dc39 pm39 an39 cd39 ct39), sl39⟩)
    (c39 : PySem.W.codeIn K cd39 "answer_dark" = true)
    (k39 : PySem.W.keepIn K (.ref f39) = true)
    (a40 : PySem.W.nsIn K mainGlobals "answer_deep" = some (some (.ref f40)))
    (l40 : K.lookup f40 = some ⟨oc40, od40, .func (PySem.W.fnOf "answer_deep" "answer_deep" (defArgs sADeep) (defBody sADeep) (defScope sADeep) .none kV40 dc40 pm40 an40 cd40 ct40), sl40⟩)
    (c40 : PySem.W.codeIn K cd40 "answer_deep" = true)
    (k40 : PySem.W.keepIn K (.ref f40) = true)
    (a41 : PySem.W.nsIn K mainGlobals "answers" = some (some (.ref f41)))
    (l41 : K.lookup f41 = some ⟨oc41, od41, .func (PySem.W.fnOf "answers" "answers" (defArgs sAns) (defBody sAns) (defScope sAns) .none kV41 dc41 pm41 an41 cd41 ct41), sl41⟩)
    (c41 : PySem.W.codeIn K cd41 "answers" = true)
    (k41 : PySem.W.keepIn K (.ref f41) = true)
    (a42 : PySem.W.findIn K (.ref CL) "__init__" = some (some (.ref f42)))
    (i42 : PySem.W.isFn K (.ref f42) = true)
    (l42 : K.lookup f42 = some ⟨oc42, od42, .func (PySem.W.fnOf "__init__" "Layout.__init__" (defArgs sLInit) (defBody sLInit) (defScope sLInit) .none kV42 dc42 pm42 an42 cd42 ct42), sl42⟩)
    (c42 : PySem.W.codeIn K cd42 "Layout.__init__" = true)
    (k42 : PySem.W.keepIn K (.ref f42) = true)
    (a43 : PySem.W.findIn K (.ref CL) "cell_at" = some (some (.ref f43)))
    (i43 : PySem.W.isFn K (.ref f43) = true)
    (l43 : K.lookup f43 = some ⟨oc43, od43, .func (PySem.W.fnOf "cell_at" "Layout.cell_at" (defArgs sCell) (defBody sCell) (defScope sCell) .none kV43 dc43 pm43 an43 cd43 ct43), sl43⟩)
    (c43 : PySem.W.codeIn K cd43 "Layout.cell_at" = true)
    (k43 : PySem.W.keepIn K (.ref f43) = true)
    (a44 : PySem.W.findIn K (.ref CL) "place_of" = some (some (.ref f44)))
    (i44 : PySem.W.isFn K (.ref f44) = true)
    (l44 : K.lookup f44 = some ⟨oc44, od44, .func (PySem.W.fnOf "place_of" "Layout.place_of" (defArgs sPlaceOf) (defBody sPlaceOf) (defScope sPlaceOf) .none kV44 dc44 pm44 an44 cd44 ct44), sl44⟩)
    (c44 : PySem.W.codeIn K cd44 "Layout.place_of" = true)
    (k44 : PySem.W.keepIn K (.ref f44) = true)
    (a45 : PySem.W.findIn K (.ref CL) "cells_among" = some (some (.ref f45)))
    (i45 : PySem.W.isFn K (.ref f45) = true)
    (l45 : K.lookup f45 = some ⟨oc45, od45, .func (PySem.W.fnOf "cells_among" "Layout.cells_among" (defArgs sAmong) (defBody sAmong) (defScope sAmong) .none kV45 dc45 pm45 an45 cd45 ct45), sl45⟩)
    (c45 : PySem.W.codeIn K cd45 "Layout.cells_among" = true)
    (k45 : PySem.W.keepIn K (.ref f45) = true)
    (a46 : PySem.W.findIn K (.ref CL) "note_neighbours" = some (some (.ref f46)))
    (i46 : PySem.W.isFn K (.ref f46) = true)
    (l46 : K.lookup f46 = some ⟨oc46, od46, .func (PySem.W.fnOf "note_neighbours" "Layout.note_neighbours" (defArgs sNote) (defBody sNote) (defScope sNote) .none kV46 dc46 pm46 an46 cd46 ct46), sl46⟩)
    (c46 : PySem.W.codeIn K cd46 "Layout.note_neighbours" = true)
    (k46 : PySem.W.keepIn K (.ref f46) = true)
    (a47 : PySem.W.findIn K (.ref CG) "__init__" = some (some (.ref f47)))
    (i47 : PySem.W.isFn K (.ref f47) = true)
    (l47 : K.lookup f47 = some ⟨oc47, od47, .func (PySem.W.fnOf "__init__" "Ground.__init__" (defArgs sGInit) (defBody sGInit) (defScope sGInit) .none kV47 dc47 pm47 an47 cd47 ct47), sl47⟩)
    (c47 : PySem.W.codeIn K cd47 "Ground.__init__" = true)
    (k47 : PySem.W.keepIn K (.ref f47) = true)
    (a48 : PySem.W.findIn K (.ref CG) "begin" = some (some (.ref f48)))
    (i48 : PySem.W.isFn K (.ref f48) = true)
    (l48 : K.lookup f48 = some ⟨oc48, od48, .func (PySem.W.fnOf "begin" "Ground.begin" (defArgs sBegin) (defBody sBegin) (defScope sBegin) .none kV48 dc48 pm48 an48 cd48 ct48), sl48⟩)
    (c48 : PySem.W.codeIn K cd48 "Ground.begin" = true)
    (k48 : PySem.W.keepIn K (.ref f48) = true)
    (a49 : PySem.W.findIn K (.ref CG) "place" = some (some (.ref f49)))
    (i49 : PySem.W.isFn K (.ref f49) = true)
    (l49 : K.lookup f49 = some ⟨oc49, od49, .func (PySem.W.fnOf "place" "Ground.place" (defArgs sPlace) (defBody sPlace) (defScope sPlace) .none kV49 dc49 pm49 an49 cd49 ct49), sl49⟩)
    (c49 : PySem.W.codeIn K cd49 "Ground.place" = true)
    (k49 : PySem.W.keepIn K (.ref f49) = true)
    (a50 : PySem.W.findIn K (.ref CG) "room" = some (some (.ref f50)))
    (i50 : PySem.W.isFn K (.ref f50) = true)
    (l50 : K.lookup f50 = some ⟨oc50, od50, .func (PySem.W.fnOf "room" "Ground.room" (defArgs sGRoom) (defBody sGRoom) (defScope sGRoom) .none kV50 dc50 pm50 an50 cd50 ct50), sl50⟩)
    (c50 : PySem.W.codeIn K cd50 "Ground.room" = true)
    (k50 : PySem.W.keepIn K (.ref f50) = true)
    (a51 : PySem.W.findIn K (.ref CG) "pass_on" = some (some (.ref f51)))
    (i51 : PySem.W.isFn K (.ref f51) = true)
    (l51 : K.lookup f51 = some ⟨oc51, od51, .func (PySem.W.fnOf "pass_on" "Ground.pass_on" (defArgs sPass) (defBody sPass) (defScope sPass) .none kV51 dc51 pm51 an51 cd51 ct51), sl51⟩)
    (c51 : PySem.W.codeIn K cd51 "Ground.pass_on" = true)
    (k51 : PySem.W.keepIn K (.ref f51) = true)
    (gS : PySem.W.nsIn K mainGlobals "SIGNS" = some (some (.ref aS)))
    (lS : K.lookup aS = some ⟨.type "tuple", ddS, .seq #[.int 46 q0, .int 35 q1, .int 58 q2, .int 42 q3, .int 79 q4, .int 61 q5] mS, slS⟩)
    (gC : PySem.W.nsIn K mainGlobals "CALLS" = some (some (.ref aC)))
    (lC : K.lookup aC = some ⟨.type "dict", none, .dict es nC, #[]⟩)
    (kC : keysI es = true)
    (x1 : findBy Value.isInt es 1 = some (.ref e1))
    (y1 : K.lookup e1 = some ⟨.type "tuple", dd1, .seq #[.int 3 w1, .ref f27] m1, sx1⟩)
    (x2 : findBy Value.isInt es 2 = some (.ref e2))
    (y2 : K.lookup e2 = some ⟨.type "tuple", dd2, .seq #[.int 0 w2, .ref f28] m2, sx2⟩)
    (x3 : findBy Value.isInt es 3 = some (.ref e3))
    (y3 : K.lookup e3 = some ⟨.type "tuple", dd3, .seq #[.int 4 w3, .ref f29] m3, sx3⟩)
    (x4 : findBy Value.isInt es 4 = some (.ref e4))
    (y4 : K.lookup e4 = some ⟨.type "tuple", dd4, .seq #[.int 4 w4, .ref f30] m4, sx4⟩)
    (x5 : findBy Value.isInt es 5 = some (.ref e5))
    (y5 : K.lookup e5 = some ⟨.type "tuple", dd5, .seq #[.int 4 w5, .ref f31] m5, sx5⟩)
    (x6 : findBy Value.isInt es 6 = some (.ref e6))
    (y6 : K.lookup e6 = some ⟨.type "tuple", dd6, .seq #[.int 1 w6, .ref f32] m6, sx6⟩)
    (x7 : findBy Value.isInt es 7 = some (.ref e7))
    (y7 : K.lookup e7 = some ⟨.type "tuple", dd7, .seq #[.int 1 w7, .ref f33] m7, sx7⟩)
    (x8 : findBy Value.isInt es 8 = some (.ref e8))
    (y8 : K.lookup e8 = some ⟨.type "tuple", dd8, .seq #[.int 3 w8, .ref f34] m8, sx8⟩)
    (x9 : findBy Value.isInt es 9 = some (.ref e9))
    (y9 : K.lookup e9 = some ⟨.type "tuple", dd9, .seq #[.int 1 w9, .ref f35] m9, sx9⟩)
    (x10 : findBy Value.isInt es 10 = some (.ref e10))
    (y10 : K.lookup e10 = some ⟨.type "tuple", dd10, .seq #[.int 3 w10, .ref f36] m10, sx10⟩)
    (x11 : findBy Value.isInt es 11 = some (.ref e11))
    (y11 : K.lookup e11 = some ⟨.type "tuple", dd11, .seq #[.int 0 w11, .ref f37] m11, sx11⟩)
    (x12 : findBy Value.isInt es 12 = some (.ref e12))
    (y12 : K.lookup e12 = some ⟨.type "tuple", dd12, .seq #[.int 0 w12, .ref f38] m12, sx12⟩)
    (x13 : findBy Value.isInt es 13 = some (.ref e13))
    (y13 : K.lookup e13 = some ⟨.type "tuple", dd13, .seq #[.int 1 w13, .ref f39] m13, sx13⟩)
    (x14 : findBy Value.isInt es 14 = some (.ref e14))
    (y14 : K.lookup e14 = some ⟨.type "tuple", dd14, .seq #[.int 2 w14, .ref f40] m14, sx14⟩)
    : ∃ fd : FuncData, (∀ (s : Shared) (us : List Value), us.length = (["calls"] : List Str).length → BindsTo s fd ⟨us, []⟩ ((["calls"] : List Str).zip us)) ∧ ∀ base : Heap, K.In base → base.Ns mainGlobals mg → FnOk P w K mg base CX0 9 fa fd ["calls"] (spTop K) := by
  have e := hfa.symm.trans (PySem.W.mg_of X G a41)
  cases e
  have T : Txt K mg CL CG := ⟨⟨t0, PySem.W.mg_of X G u0⟩, ⟨t1, PySem.W.mg_of X G u1⟩, ⟨t2, PySem.W.mg_of X G u2⟩, ⟨t3, PySem.W.mg_of X G u3⟩, ⟨t4, PySem.W.mg_of X G u4⟩, ⟨t5, PySem.W.mg_of X G u5⟩, ⟨t6, PySem.W.mg_of X G u6⟩, ⟨t7, PySem.W.mg_of X G u7⟩, ⟨t8, PySem.W.mg_of X G u8⟩, ⟨t9, PySem.W.mg_of X G u9⟩, ⟨t10, PySem.W.mg_of X G u10⟩, ⟨t11, PySem.W.mg_of X G u11⟩, ⟨t12, PySem.W.mg_of X G u12⟩, ⟨t13, PySem.W.mg_of X G u13⟩, ⟨t14, PySem.W.mg_of X G u14⟩, ⟨t15, PySem.W.mg_of X G u15⟩, ⟨t16, PySem.W.mg_of X G u16⟩, ⟨t17, PySem.W.mg_of X G u17⟩, PySem.W.mg_none_of X G n0, PySem.W.mg_none_of X G n1, PySem.W.mg_none_of X G n2, PySem.W.mg_none_of X G n3, PySem.W.mg_none_of X G n4, PySem.W.mg_none_of X G n5, PySem.W.mg_none_of X G n6, PySem.W.mg_none_of X G n7, PySem.W.mg_none_of X G n8, ⟨pgL, hdL, poL, saL⟩, ⟨pgG, hdG, poG, saG⟩, v0, v1, v2, v3, v4, v5, v6, v7, v8, PySem.W.mg_of X G aL, PySem.W.mg_of X G aG⟩
  have TS : TxtS K mg aS := ⟨PySem.W.mg_of X G gS, fun H => .inr ⟨_, _, mS, lS, rfl, rfl, (by show 6 ≤ sizeLine; decide), .cons ⟨_, rfl⟩ (.cons ⟨_, rfl⟩ (.cons ⟨_, rfl⟩ (.cons ⟨_, rfl⟩ (.cons ⟨_, rfl⟩ (.cons ⟨_, rfl⟩ .nil)))))⟩⟩
  have F0 := fun_mk (st := sFits) l0 c0 k0
  have D0 : DefN K mg "fits" sFits ["sides"] f0 _ := ⟨F0, PySem.W.mg_of X G a0, F0.binds fun _ _ _ _ _ _ us hl => match us, hl with | [_], _ => rfl⟩
  have F1 := fun_mk (st := sRoom) l1 c1 k1
  have D1 : DefN K mg "room_in" sRoom ["materials", "water", "cell"] f1 _ := ⟨F1, PySem.W.mg_of X G a1, F1.binds fun _ _ _ _ _ _ us hl => match us, hl with | [_, _, _], _ => rfl⟩
  have F2 := fun_mk (st := sClear) l2 c2 k2
  have D2 : DefN K mg "is_clear" sClear ["material"] f2 _ := ⟨F2, PySem.W.mg_of X G a2, F2.binds fun _ _ _ _ _ _ us hl => match us, hl with | [_], _ => rfl⟩
  have F3 := fun_mk (st := sOpen) l3 c3 k3
  have D3 : DefN K mg "open_cells" sOpen ["layout", "materials"] f3 _ := ⟨F3, PySem.W.mg_of X G a3, F3.binds fun _ _ _ _ _ _ us hl => match us, hl with | [_, _], _ => rfl⟩
  have F4 := fun_mk (st := sOwn) l4 c4 k4
  have D4 : DefN K mg "own_light" sOwn ["material", "is_open"] f4 _ := ⟨F4, PySem.W.mg_of X G a4, F4.binds fun _ _ _ _ _ _ us hl => match us, hl with | [_, _], _ => rfl⟩
  have F5 := fun_mk (st := sOwns) l5 c5 k5
  have D5 : DefN K mg "own_lights" sOwns ["layout", "materials"] f5 _ := ⟨F5, PySem.W.mg_of X G a5, F5.binds fun _ _ _ _ _ _ us hl => match us, hl with | [_, _], _ => rfl⟩
  have F6 := fun_mk (st := sLights) l6 c6 k6
  have D6 : DefN K mg "lights" sLights ["layout", "materials"] f6 _ := ⟨F6, PySem.W.mg_of X G a6, F6.binds fun _ _ _ _ _ _ us hl => match us, hl with | [_, _], _ => rfl⟩
  have F7 := fun_mk (st := sTrail) l7 c7 k7
  have D7 : DefN K mg "trail_from" sTrail ["layout", "materials", "cell"] f7 _ := ⟨F7, PySem.W.mg_of X G a7, F7.binds fun _ _ _ _ _ _ us hl => match us, hl with | [_, _, _], _ => rfl⟩
  have F8 := fun_mk (st := sLayers) l8 c8 k8
  have D8 : DefN K mg "layers_of" sLayers ["octets"] f8 _ := ⟨F8, PySem.W.mg_of X G a8, F8.binds fun _ _ _ _ _ _ us hl => match us, hl with | [_], _ => rfl⟩
  have F9 := fun_mk (st := sEven) l9 c9 k9
  have D9 : DefN K mg "is_even" sEven ["layers"] f9 _ := ⟨F9, PySem.W.mg_of X G a9, F9.binds fun _ _ _ _ _ _ us hl => match us, hl with | [_], _ => rfl⟩
  have F10 := fun_mk (st := sSidesOf) l10 c10 k10
  have D10 : DefN K mg "sides_of" sSidesOf ["layers"] f10 _ := ⟨F10, PySem.W.mg_of X G a10, F10.binds fun _ _ _ _ _ _ us hl => match us, hl with | [_], _ => rfl⟩
  have F11 := fun_mk (st := sConts) l11 c11 k11
  have D11 : DefN K mg "contents_by_sign" sConts [] f11 _ := ⟨F11, PySem.W.mg_of X G a11, F11.binds fun _ _ _ _ _ _ us hl => match us, hl with | [], _ => rfl⟩
  have F12 := fun_mk (st := sWrong) l12 c12 k12
  have D12 : DefN K mg "what_is_wrong" sWrong ["octets"] f12 _ := ⟨F12, PySem.W.mg_of X G a12, F12.binds fun _ _ _ _ _ _ us hl => match us, hl with | [_], _ => rfl⟩
  have F13 := fun_mk (st := sRead) l13 c13 k13
  have D13 : DefN K mg "read_text" sRead ["octets"] f13 _ := ⟨F13, PySem.W.mg_of X G a13, F13.binds fun _ _ _ _ _ _ us hl => match us, hl with | [_], _ => rfl⟩
  have F14 := fun_mk (st := sText) l14 c14 k14
  have D14 : DefN K mg "text_of" sText ["sides", "materials", "water"] f14 _ := ⟨F14, PySem.W.mg_of X G a14, F14.binds fun _ _ _ _ _ _ us hl => match us, hl with | [_, _, _], _ => rfl⟩
  have F15 := fun_mk (st := sSign) l15 c15 k15
  have D15 : DefN K mg "sign_of" sSign ["material", "water"] f15 _ := ⟨F15, PySem.W.mg_of X G a15, F15.binds fun _ _ _ _ _ _ us hl => match us, hl with | [_, _], _ => rfl⟩
  have F16 := fun_mk (st := sFoot) l16 c16 k16
  have D16 : DefN K mg "has_foot" sFoot ["layout", "materials", "cell"] f16 _ := ⟨F16, PySem.W.mg_of X G a16, F16.binds fun _ _ _ _ _ _ us hl => match us, hl with | [_, _, _], _ => rfl⟩
  have F17 := fun_mk (st := sHeld) l17 c17 k17
  have D17 : DefN K mg "held_wood" sHeld ["layout", "materials"] f17 _ := ⟨F17, PySem.W.mg_of X G a17, F17.binds fun _ _ _ _ _ _ us hl => match us, hl with | [_, _], _ => rfl⟩
  have F18 := fun_mk (st := sLoose) l18 c18 k18
  have D18 : DefN K mg "loose_cells" sLoose ["layout", "materials"] f18 _ := ⟨F18, PySem.W.mg_of X G a18, F18.binds fun _ _ _ _ _ _ us hl => match us, hl with | [_, _], _ => rfl⟩
  have F19 := fun_mk (st := sFall) l19 c19 k19
  have D19 : DefN K mg "let_fall" sFall ["layout", "materials", "water"] f19 _ := ⟨F19, PySem.W.mg_of X G a19, F19.binds fun _ _ _ _ _ _ us hl => match us, hl with | [_, _, _], _ => rfl⟩
  have F20 := fun_mk (st := sDown) l20 c20 k20
  have D20 : DefN K mg "run_down" sDown ["layout", "materials", "water", "cell"] f20 _ := ⟨F20, PySem.W.mg_of X G a20, F20.binds fun _ _ _ _ _ _ us hl => match us, hl with | [_, _, _, _], _ => rfl⟩
  have F21 := fun_mk (st := sAside) l21 c21 k21
  have D21 : DefN K mg "run_aside" sAside ["layout", "materials", "water", "cell"] f21 _ := ⟨F21, PySem.W.mg_of X G a21, F21.binds fun _ _ _ _ _ _ us hl => match us, hl with | [_, _, _, _], _ => rfl⟩
  have F22 := fun_mk (st := sRun) l22 c22 k22
  have D22 : DefN K mg "let_run" sRun ["layout", "materials", "water"] f22 _ := ⟨F22, PySem.W.mg_of X G a22, F22.binds fun _ _ _ _ _ _ us hl => match us, hl with | [_, _, _], _ => rfl⟩
  have F23 := fun_mk (st := sTick) l23 c23 k23
  have D23 : DefN K mg "behind_tick" sTick ["layout", "materials", "water"] f23 _ := ⟨F23, PySem.W.mg_of X G a23, F23.binds fun _ _ _ _ _ _ us hl => match us, hl with | [_, _, _], _ => rfl⟩
  have F24 := fun_mk (st := sTicks) l24 c24 k24
  have D24 : DefN K mg "behind_ticks" sTicks ["ground", "most"] f24 _ := ⟨F24, PySem.W.mg_of X G a24, F24.binds fun _ _ _ _ _ _ us hl => match us, hl with | [_, _], _ => rfl⟩
  have F25 := fun_mk (st := sCount) l25 c25 k25
  have D25 : DefN K mg "counted_places" sCount ["layout", "cells"] f25 _ := ⟨F25, PySem.W.mg_of X G a25, F25.binds fun _ _ _ _ _ _ us hl => match us, hl with | [_, _], _ => rfl⟩
  have F26 := fun_mk (st := sAText) l26 c26 k26
  have D26 : DefN K mg "answer_text" sAText ["ground", "octets"] f26 _ := ⟨F26, PySem.W.mg_of X G a26, F26.binds fun _ _ _ _ _ _ us hl => match us, hl with | [_, _], _ => rfl⟩
  have F27 := fun_mk (st := sAEmpty) l27 c27 k27
  have D27 : DefN K mg "answer_empty" sAEmpty ["ground", "sides"] f27 _ := ⟨F27, PySem.W.mg_of X G a27, F27.binds fun _ _ _ _ _ _ us hl => match us, hl with | [_, _], _ => rfl⟩
  have F28 := fun_mk (st := sPrint) l28 c28 k28
  have D28 : DefN K mg "answer_print" sPrint ["ground", "numbers"] f28 _ := ⟨F28, PySem.W.mg_of X G a28, F28.binds fun _ _ _ _ _ _ us hl => match us, hl with | [_, _], _ => rfl⟩
  have F29 := fun_mk (st := sAPlace) l29 c29 k29
  have D29 : DefN K mg "answer_place" sAPlace ["ground", "numbers"] f29 _ := ⟨F29, PySem.W.mg_of X G a29, F29.binds fun _ _ _ _ _ _ us hl => match us, hl with | [_, _], _ => rfl⟩
  have F30 := fun_mk (st := sAPour) l30 c30 k30
  have D30 : DefN K mg "answer_pour" sAPour ["ground", "numbers"] f30 _ := ⟨F30, PySem.W.mg_of X G a30, F30.binds fun _ _ _ _ _ _ us hl => match us, hl with | [_, _], _ => rfl⟩
  have F31 := fun_mk (st := sADrain) l31 c31 k31
  have D31 : DefN K mg "answer_drain" sADrain ["ground", "numbers"] f31 _ := ⟨F31, PySem.W.mg_of X G a31, F31.binds fun _ _ _ _ _ _ us hl => match us, hl with | [_, _], _ => rfl⟩
  have F32 := fun_mk (st := sATick) l32 c32 k32
  have D32 : DefN K mg "answer_tick" sATick ["ground", "numbers"] f32 _ := ⟨F32, PySem.W.mg_of X G a32, F32.binds fun _ _ _ _ _ _ us hl => match us, hl with | [_, _], _ => rfl⟩
  have F33 := fun_mk (st := sASettle) l33 c33 k33
  have D33 : DefN K mg "answer_settle" sASettle ["ground", "numbers"] f33 _ := ⟨F33, PySem.W.mg_of X G a33, F33.binds fun _ _ _ _ _ _ us hl => match us, hl with | [_, _], _ => rfl⟩
  have F34 := fun_mk (st := sACell) l34 c34 k34
  have D34 : DefN K mg "answer_cell" sACell ["ground", "numbers"] f34 _ := ⟨F34, PySem.W.mg_of X G a34, F34.binds fun _ _ _ _ _ _ us hl => match us, hl with | [_, _], _ => rfl⟩
  have F35 := fun_mk (st := sALight) l35 c35 k35
  have D35 : DefN K mg "answer_light" sALight ["ground", "numbers"] f35 _ := ⟨F35, PySem.W.mg_of X G a35, F35.binds fun _ _ _ _ _ _ us hl => match us, hl with | [_, _], _ => rfl⟩
  have F36 := fun_mk (st := sATrail) l36 c36 k36
  have D36 : DefN K mg "answer_trail" sATrail ["ground", "numbers"] f36 _ := ⟨F36, PySem.W.mg_of X G a36, F36.binds fun _ _ _ _ _ _ us hl => match us, hl with | [_, _], _ => rfl⟩
  have F37 := fun_mk (st := sACount) l37 c37 k37
  have D37 : DefN K mg "answer_count" sACount ["ground", "numbers"] f37 _ := ⟨F37, PySem.W.mg_of X G a37, F37.binds fun _ _ _ _ _ _ us hl => match us, hl with | [_, _], _ => rfl⟩
  have F38 := fun_mk (st := sAHeld) l38 c38 k38
  have D38 : DefN K mg "answer_held" sAHeld ["ground", "numbers"] f38 _ := ⟨F38, PySem.W.mg_of X G a38, F38.binds fun _ _ _ _ _ _ us hl => match us, hl with | [_, _], _ => rfl⟩
  have F39 := fun_mk (st := sADark) l39 c39 k39
  have D39 : DefN K mg "answer_dark" sADark ["ground", "numbers"] f39 _ := ⟨F39, PySem.W.mg_of X G a39, F39.binds fun _ _ _ _ _ _ us hl => match us, hl with | [_, _], _ => rfl⟩
  have F40 := fun_mk (st := sADeep) l40 c40 k40
  have D40 : DefN K mg "answer_deep" sADeep ["ground", "numbers"] f40 _ := ⟨F40, PySem.W.mg_of X G a40, F40.binds fun _ _ _ _ _ _ us hl => match us, hl with | [_, _], _ => rfl⟩
  have F41 := fun_mk (st := sAns) l41 c41 k41
  have D41 : DefN K mg "answers" sAns ["calls"] fa _ := ⟨F41, PySem.W.mg_of X G a41, F41.binds fun _ _ _ _ _ _ us hl => match us, hl with | [_], _ => rfl⟩
  have F42 := fun_mk (st := sLInit) l42 c42 k42
  have B42 : Binds K _ ["self", "sides"] [] := F42.binds fun _ _ _ _ _ _ us hl => match us, hl with | [_, _], _ => rfl
  have F43 := fun_mk (st := sCell) l43 c43 k43
  have B43 : Binds K _ ["self", "x", "y", "z"] [] := F43.binds fun _ _ _ _ _ _ us hl => match us, hl with | [_, _, _, _], _ => rfl
  have F44 := fun_mk (st := sPlaceOf) l44 c44 k44
  have B44 : Binds K _ ["self", "cell"] [] := F44.binds fun _ _ _ _ _ _ us hl => match us, hl with | [_, _], _ => rfl
  have F45 := fun_mk (st := sAmong) l45 c45 k45
  have B45 : Binds K _ ["self", "places"] [] := F45.binds fun _ _ _ _ _ _ us hl => match us, hl with | [_, _], _ => rfl
  have F46 := fun_mk (st := sNote) l46 c46 k46
  have B46 : Binds K _ ["self", "x", "y", "z"] [] := F46.binds fun _ _ _ _ _ _ us hl => match us, hl with | [_, _, _, _], _ => rfl
  have F47 := fun_mk (st := sGInit) l47 c47 k47
  have B47 : Binds K _ ["self"] [] := F47.binds fun _ _ _ _ _ _ us hl => match us, hl with | [_], _ => rfl
  have F48 := fun_mk (st := sBegin) l48 c48 k48
  have B48 : Binds K _ ["self", "sides", "materials", "water"] [] := F48.binds fun _ _ _ _ _ _ us hl => match us, hl with | [_, _, _, _], _ => rfl
  have F49 := fun_mk (st := sPlace) l49 c49 k49
  have B49 : Binds K _ ["self", "cell", "material"] [] := F49.binds fun _ _ _ _ _ _ us hl => match us, hl with | [_, _, _], _ => rfl
  have F50 := fun_mk (st := sGRoom) l50 c50 k50
  have B50 : Binds K _ ["self", "cell"] [] := F50.binds fun _ _ _ _ _ _ us hl => match us, hl with | [_, _], _ => rfl
  have F51 := fun_mk (st := sPass) l51 c51 k51
  have B51 : Binds K _ ["self", "materials", "water", "ticks"] [] := F51.binds fun _ _ _ _ _ _ us hl => match us, hl with | [_, _, _, _], _ => rfl
  have Y : LayT K CL _ _ _ _ _ _ _ _ _ _ := ⟨⟨mkL, a42, i42, kcL⟩, F42, B42, F43, ⟨a43, i43, k43⟩, B43, F45, ⟨a45, i45, k45⟩, B45, F46, ⟨a46, i46, k46⟩, B46, F44, ⟨a44, i44, k44⟩, B44⟩
  have R : GrT K CG _ _ _ _ _ _ _ _ := ⟨F48, ⟨a48, i48, k48⟩, B48, F49, ⟨a49, i49, k49⟩, B49, F50, ⟨a50, i50, k50⟩, B50, F51, ⟨a51, i51, k51⟩, B51⟩
  have MG : Mk K CG f47 := ⟨mkG, a47, i47, kcG⟩
  have TT : TickT K mg _ _ _ _ _ _ _ _ _ _ _ _ _ _ _ _ _ _ _ _ := ⟨D16, D17, D18, D19, D1, D20, D21, D22, D23, D24⟩
  have LT : LightT K mg _ _ _ _ _ _ _ _ _ _ _ _ := ⟨D2, D3, D4, D5, D6, D7⟩
  have XT : TextT K mg _ _ _ _ _ _ _ _ _ _ _ _ _ _ := ⟨D8, D9, D0, D10, D11, D12, D13⟩
  refine ⟨PySem.W.fnOf "answers" "answers" (defArgs sAns) (defBody sAns) (defScope sAns) .none kV41 dc41 pm41 an41 cd41 ct41, fun s us hu => match us, hu with | [_], _ => .of_eq rfl, fun base _ _ => ?_⟩
  have HT : Held P w K mg base 7 f26 (spAns CL CG (fun ns => [[0], ns]) bytesOk) := ⟨⟨_, _, ok_atext F26 T TS Y R XT, k26, D26.b⟩⟩
  have CT : CallsT P w K mg base CL CG aC := ⟨fun i i1 i2 => by
    rcases to14 i1 i2 with rfl | rfl | rfl | rfl | rfl | rfl | rfl | rfl | rfl | rfl | rfl | rfl | rfl | rfl
    · exact ⟨e1, f27, ⟨es, nC, _, lC, kC, x1, rfl⟩, ⟨dd1, w1, m1, sx1, y1⟩, ⟨⟨_, _, ok_aempty F27 T Y R D0, k27, D27.b⟩⟩⟩
    · exact ⟨e2, f28, ⟨es, nC, _, lC, kC, x2, rfl⟩, ⟨dd2, w2, m2, sx2, y2⟩, ⟨⟨_, _, (ok_print F28 T TS D15 D14).mono (by decide), k28, D28.b⟩⟩⟩
    · exact ⟨e3, f29, ⟨es, nC, _, lC, kC, x3, rfl⟩, ⟨dd3, w3, m3, sx3, y3⟩, ⟨⟨_, _, ok_aplace F29 T Y R, k29, D29.b⟩⟩⟩
    · exact ⟨e4, f30, ⟨es, nC, _, lC, kC, x4, rfl⟩, ⟨dd4, w4, m4, sx4, y4⟩, ⟨⟨_, _, ok_apour F30 T Y R D1, k30, D30.b⟩⟩⟩
    · exact ⟨e5, f31, ⟨es, nC, _, lC, kC, x5, rfl⟩, ⟨dd5, w5, m5, sx5, y5⟩, ⟨⟨_, _, ok_adrain F31 T Y R, k31, D31.b⟩⟩⟩
    · exact ⟨e6, f32, ⟨es, nC, _, lC, kC, x6, rfl⟩, ⟨dd6, w6, m6, sx6, y6⟩, ⟨⟨_, _, ok_atick F32 T R TT, k32, D32.b⟩⟩⟩
    · exact ⟨e7, f33, ⟨es, nC, _, lC, kC, x7, rfl⟩, ⟨dd7, w7, m7, sx7, y7⟩, ⟨⟨_, _, ok_asettle F33 T R TT, k33, D33.b⟩⟩⟩
    · exact ⟨e8, f34, ⟨es, nC, _, lC, kC, x8, rfl⟩, ⟨dd8, w8, m8, sx8, y8⟩, ⟨⟨_, _, ok_acell F34 T Y LT, k34, D34.b⟩⟩⟩
    · exact ⟨e9, f35, ⟨es, nC, _, lC, kC, x9, rfl⟩, ⟨dd9, w9, m9, sx9, y9⟩, ⟨⟨_, _, ok_alight F35 T Y LT, k35, D35.b⟩⟩⟩
    · exact ⟨e10, f36, ⟨es, nC, _, lC, kC, x10, rfl⟩, ⟨dd10, w10, m10, sx10, y10⟩, ⟨⟨_, _, ok_atrail F36 T Y LT D25, k36, D36.b⟩⟩⟩
    · exact ⟨e11, f37, ⟨es, nC, _, lC, kC, x11, rfl⟩, ⟨dd11, w11, m11, sx11, y11⟩, ⟨⟨_, _, ok_acount F37 T, k37, D37.b⟩⟩⟩
    · exact ⟨e12, f38, ⟨es, nC, _, lC, kC, x12, rfl⟩, ⟨dd12, w12, m12, sx12, y12⟩, ⟨⟨_, _, ok_aheld F38 T Y TT D25, k38, D38.b⟩⟩⟩
    · exact ⟨e13, f39, ⟨es, nC, _, lC, kC, x13, rfl⟩, ⟨dd13, w13, m13, sx13, y13⟩, ⟨⟨_, _, ok_adark F39 T LT, k39, D39.b⟩⟩⟩
    · exact ⟨e14, f40, ⟨es, nC, _, lC, kC, x14, rfl⟩, ⟨dd14, w14, m14, sx14, y14⟩, ⟨⟨_, _, ok_adeep F40 T Y, k40, D40.b⟩⟩⟩⟩
  exact ok_answers F41 T Y R MG F47 B47 (PySem.W.mg_of X G gC) CT D26.g HT
end Gr
set_option Elab.async false
open PySem PySem.W PyProof.Rows
set_option maxRecDepth 100000 in
set_option maxHeartbeats 16000000 in
theorem PySem.Challenge.cw_fallingground_s01_answers_holds : PySem.Challenge.rw_fallingground_s01_answers.Holds := by
  w_on; k_headS; (case hw => exact ⟨[.list [.int 2]], by decide +kernel, by decide +kernel⟩)
  k_fillS
  refine L2.walk_specK (r := PySem.Challenge.rw_fallingground_s01_answers) (k := 9) (CX := L2.CX0) (ps := ["calls"]) (sp := Gr.spTop) (by decide +kernel) rfl rfl ⟨by decide, by decide, by decide⟩ (fun w h Y => PySem.W.kIn_of Y) ?F ?S (fun _ _ _ _ z => z)
  case F =>
    intro w mg fa h Y KX G hmg
    refine' Gr.all_mk KX G hmg ?u0 ?u1 ?u2 ?u3 ?u4 ?u5 ?u6 ?u7 ?u8 ?u9 ?u10 ?u11 ?u12 ?u13 ?u14 ?u15 ?u16 ?u17 ?n0 ?n1 ?n2 ?n3 ?n4 ?n5 ?n6 ?n7 ?n8 ?aL ?aG ?pgL ?hdL ?poL ?saL ?mkL ?kcL ?pgG ?hdG ?poG ?saG ?mkG ?kcG ?v0 ?v1 ?v2 ?v3 ?v4 ?v5 ?v6 ?v7 ?v8 ?a0 ?l0 ?c0 ?k0 ?a1 ?l1 ?c1 ?k1 ?a2 ?l2 ?c2 ?k2 ?a3 ?l3 ?c3 ?k3 ?a4 ?l4 ?c4 ?k4 ?a5 ?l5 ?c5 ?k5 ?a6 ?l6 ?c6 ?k6 ?a7 ?l7 ?c7 ?k7 ?a8 ?l8 ?c8 ?k8 ?a9 ?l9 ?c9 ?k9 ?a10 ?l10 ?c10 ?k10 ?a11 ?l11 ?c11 ?k11 ?a12 ?l12 ?c12 ?k12 ?a13 ?l13 ?c13 ?k13 ?a14 ?l14 ?c14 ?k14 ?a15 ?l15 ?c15 ?k15 ?a16 ?l16 ?c16 ?k16 ?a17 ?l17 ?c17 ?k17 ?a18 ?l18 ?c18 ?k18 ?a19 ?l19 ?c19 ?k19 ?a20 ?l20 ?c20 ?k20 ?a21 ?l21 ?c21 ?k21 ?a22 ?l22 ?c22 ?k22 ?a23 ?l23 ?c23 ?k23 ?a24 ?l24 ?c24 ?k24 ?a25 ?l25 ?c25 ?k25 ?a26 ?l26 ?c26 ?k26 ?a27 ?l27 ?c27 ?k27 ?a28 ?l28 ?c28 ?k28 ?a29 ?l29 ?c29 ?k29 ?a30 ?l30 ?c30 ?k30 ?a31 ?l31 ?c31 ?k31 ?a32 ?l32 ?c32 ?k32 ?a33 ?l33 ?c33 ?k33 ?a34 ?l34 ?c34 ?k34 ?a35 ?l35 ?c35 ?k35 ?a36 ?l36 ?c36 ?k36 ?a37 ?l37 ?c37 ?k37 ?a38 ?l38 ?c38 ?k38 ?a39 ?l39 ?c39 ?k39 ?a40 ?l40 ?c40 ?k40 ?a41 ?l41 ?c41 ?k41 ?a42 ?i42 ?l42 ?c42 ?k42 ?a43 ?i43 ?l43 ?c43 ?k43 ?a44 ?i44 ?l44 ?c44 ?k44 ?a45 ?i45 ?l45 ?c45 ?k45 ?a46 ?i46 ?l46 ?c46 ?k46 ?a47 ?i47 ?l47 ?c47 ?k47 ?a48 ?i48 ?l48 ?c48 ?k48 ?a49 ?i49 ?l49 ?c49 ?k49 ?a50 ?i50 ?l50 ?c50 ?k50 ?a51 ?i51 ?l51 ?c51 ?k51 ?gS ?lS ?gC ?lC ?kC ?x1 ?y1 ?x2 ?y2 ?x3 ?y3 ?x4 ?y4 ?x5 ?y5 ?x6 ?y6 ?x7 ?y7 ?x8 ?y8 ?x9 ?y9 ?x10 ?y10 ?x11 ?y11 ?x12 ?y12 ?x13 ?y13 ?x14 ?y14
    (case u0 => k_is); (case u1 => k_is); (case u2 => k_is); (case u3 => k_is); (case u4 => k_is); (case u5 => k_is); (case u6 => k_is); (case u7 => k_is)
    (case u8 => k_is); (case u9 => k_is); (case u10 => k_is); (case u11 => k_is); (case u12 => k_is); (case u13 => k_is); (case u14 => k_is); (case u15 => k_is)
    (case u16 => k_is); (case u17 => k_is); (case n0 => k_is); (case n1 => k_is); (case n2 => k_is); (case n3 => k_is); (case n4 => k_is); (case n5 => k_is)
    (case n6 => k_is); (case n7 => k_is); (case n8 => k_is); (case aL => k_is); (case aG => k_is); (case pgL => k_is); (case hdL => k_is); (case poL => k_is)
    (case saL => k_is); (case mkL => k_is); (case kcL => k_is); (case pgG => k_is); (case hdG => k_is); (case poG => k_is); (case saG => k_is); (case mkG => k_is)
    (case kcG => k_is); (case v0 => k_is); (case v1 => k_is); (case v2 => k_is); (case v3 => k_is); (case v4 => k_is); (case v5 => k_is); (case v6 => k_is)
    (case v7 => k_is); (case v8 => k_is); (case a0 => k_is); (case l0 => k_is); (case c0 => k_is); (case k0 => k_is); (case a1 => k_is); (case l1 => k_is)
    (case c1 => k_is); (case k1 => k_is); (case a2 => k_is); (case l2 => k_is); (case c2 => k_is); (case k2 => k_is); (case a3 => k_is); (case l3 => k_is)
    (case c3 => k_is); (case k3 => k_is); (case a4 => k_is); (case l4 => k_is); (case c4 => k_is); (case k4 => k_is); (case a5 => k_is); (case l5 => k_is)
    (case c5 => k_is); (case k5 => k_is); (case a6 => k_is); (case l6 => k_is); (case c6 => k_is); (case k6 => k_is); (case a7 => k_is); (case l7 => k_is)
    (case c7 => k_is); (case k7 => k_is); (case a8 => k_is); (case l8 => k_is); (case c8 => k_is); (case k8 => k_is); (case a9 => k_is); (case l9 => k_is)
    (case c9 => k_is); (case k9 => k_is); (case a10 => k_is); (case l10 => k_is); (case c10 => k_is); (case k10 => k_is); (case a11 => k_is); (case l11 => k_is)
    (case c11 => k_is); (case k11 => k_is); (case a12 => k_is); (case l12 => k_is); (case c12 => k_is); (case k12 => k_is); (case a13 => k_is); (case l13 => k_is)
    (case c13 => k_is); (case k13 => k_is); (case a14 => k_is); (case l14 => k_is); (case c14 => k_is); (case k14 => k_is); (case a15 => k_is); (case l15 => k_is)
    (case c15 => k_is); (case k15 => k_is); (case a16 => k_is); (case l16 => k_is); (case c16 => k_is); (case k16 => k_is); (case a17 => k_is); (case l17 => k_is)
    (case c17 => k_is); (case k17 => k_is); (case a18 => k_is); (case l18 => k_is); (case c18 => k_is); (case k18 => k_is); (case a19 => k_is); (case l19 => k_is)
    (case c19 => k_is); (case k19 => k_is); (case a20 => k_is); (case l20 => k_is); (case c20 => k_is); (case k20 => k_is); (case a21 => k_is); (case l21 => k_is)
    (case c21 => k_is); (case k21 => k_is); (case a22 => k_is); (case l22 => k_is); (case c22 => k_is); (case k22 => k_is); (case a23 => k_is); (case l23 => k_is)
    (case c23 => k_is); (case k23 => k_is); (case a24 => k_is); (case l24 => k_is); (case c24 => k_is); (case k24 => k_is); (case a25 => k_is); (case l25 => k_is)
    (case c25 => k_is); (case k25 => k_is); (case a26 => k_is); (case l26 => k_is); (case c26 => k_is); (case k26 => k_is); (case a27 => k_is); (case l27 => k_is)
    (case c27 => k_is); (case k27 => k_is); (case a28 => k_is); (case l28 => k_is); (case c28 => k_is); (case k28 => k_is); (case a29 => k_is); (case l29 => k_is)
    (case c29 => k_is); (case k29 => k_is); (case a30 => k_is); (case l30 => k_is); (case c30 => k_is); (case k30 => k_is); (case a31 => k_is); (case l31 => k_is)
    (case c31 => k_is); (case k31 => k_is); (case a32 => k_is); (case l32 => k_is); (case c32 => k_is); (case k32 => k_is); (case a33 => k_is); (case l33 => k_is)
    (case c33 => k_is); (case k33 => k_is); (case a34 => k_is); (case l34 => k_is); (case c34 => k_is); (case k34 => k_is); (case a35 => k_is); (case l35 => k_is)
    (case c35 => k_is); (case k35 => k_is); (case a36 => k_is); (case l36 => k_is); (case c36 => k_is); (case k36 => k_is); (case a37 => k_is); (case l37 => k_is)
    (case c37 => k_is); (case k37 => k_is); (case a38 => k_is); (case l38 => k_is); (case c38 => k_is); (case k38 => k_is); (case a39 => k_is); (case l39 => k_is)
    (case c39 => k_is); (case k39 => k_is); (case a40 => k_is); (case l40 => k_is); (case c40 => k_is); (case k40 => k_is); (case a41 => k_is); (case l41 => k_is)
    (case c41 => k_is); (case k41 => k_is); (case a42 => k_is); (case i42 => k_is); (case l42 => k_is); (case c42 => k_is); (case k42 => k_is); (case a43 => k_is)
    (case i43 => k_is); (case l43 => k_is); (case c43 => k_is); (case k43 => k_is); (case a44 => k_is); (case i44 => k_is); (case l44 => k_is); (case c44 => k_is)
    (case k44 => k_is); (case a45 => k_is); (case i45 => k_is); (case l45 => k_is); (case c45 => k_is); (case k45 => k_is); (case a46 => k_is); (case i46 => k_is)
    (case l46 => k_is); (case c46 => k_is); (case k46 => k_is); (case a47 => k_is); (case i47 => k_is); (case l47 => k_is); (case c47 => k_is); (case k47 => k_is)
    (case a48 => k_is); (case i48 => k_is); (case l48 => k_is); (case c48 => k_is); (case k48 => k_is); (case a49 => k_is); (case i49 => k_is); (case l49 => k_is)
    (case c49 => k_is); (case k49 => k_is); (case a50 => k_is); (case i50 => k_is); (case l50 => k_is); (case c50 => k_is); (case k50 => k_is); (case a51 => k_is)
    (case i51 => k_is); (case l51 => k_is); (case c51 => k_is); (case k51 => k_is); (case gS => k_is); (case lS => k_is); (case gC => k_is); (case lC => k_is)
    (case kC => decide +kernel); (case x1 => rfl); (case y1 => k_is); (case x2 => rfl); (case y2 => k_is); (case x3 => rfl); (case y3 => k_is); (case x4 => rfl)
    (case y4 => k_is); (case x5 => rfl); (case y5 => k_is); (case x6 => rfl); (case y6 => k_is); (case x7 => rfl); (case y7 => k_is); (case x8 => rfl)
    (case y8 => k_is); (case x9 => rfl); (case y9 => k_is); (case x10 => rfl); (case y10 => k_is); (case x11 => rfl); (case y11 => k_is); (case x12 => rfl)
    (case y12 => k_is); (case x13 => rfl); (case y13 => k_is); (case x14 => rfl); (case y14 => k_is)
  case S =>
    intro K H xs a hO hwi hask hx
    cases hx with
    | cons h1 h2 =>
      cases h2
      cases h1 with
      | lst hs ha =>
        have e := L2.ints_dw a.1 _ ha
        subst e
        have q : ((Codec.inLen 0 30000 a.1 && a.1.all (Codec.inInt (-1000000000) 1000000000)) && true) = true := hwi
        rw [Bool.and_eq_true, Bool.and_eq_true] at q
        exact ⟨_, a.1, rfl, hs, hask, (Codec.inNat_iff.mp q.1.1).2, fun H' p hp => .lst (L2.SqL.of hp) (L2.dw_ints _)⟩
#print axioms PySem.Challenge.cw_fallingground_s01_answers_holds
