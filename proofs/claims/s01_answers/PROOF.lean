import PyProof.Rows.All
import Wide.All
import OpenK.AllK
import Wide.FinOn
import PyFlatLaws
import Open.SpecLaws
import KE.OsGo
import HandS.ForSpec
import HandS.ForMost
import HandS.DictTup
import HandS.ListItems
import HandS.SortRule
import HandS.SortInts
import KE.KDictZip
import KE.KItemsList
import HandS.Base
import HandS.Call
import HandS.List
import HandS.Dict
import HandS.Iter
import HandS.More
import HandS.Wide
import HandS.Conv
import HandS.SetFor
import HandS.Walk
import PySem.Challenge.RW_anewcounts_s01_answers
set_option Elab.async false
/-! The mathematics: fractions, what's been counted -/
namespace Ac
open Sq37 (Frac frac whole Series)

theorem frac_pos {n d : Nat} (h : 0 < d) : 0 < (frac n d).d := by
  unfold frac
  by_cases c : n = 0
  · rw [if_pos c]; exact Nat.one_pos
  · rw [if_neg c]; exact Nat.div_pos (Nat.gcd_le_right n h) (Nat.gcd_pos_of_pos_right n h)
theorem frac_eq {n d : Nat} (h : 0 < d) : frac n d = ⟨n / Nat.gcd n d, d / Nat.gcd n d⟩ := by
  unfold frac
  by_cases c : n = 0
  · rw [if_pos c, c, Nat.gcd_zero_left, Nat.zero_div, Nat.div_self h]
  · rw [if_neg c]
theorem frac_cross {n d : Nat} (h : 0 < d) : (frac n d).n * d = n * (frac n d).d := by
  rw [frac_eq h]
  show n / Nat.gcd n d * d = n * (d / Nat.gcd n d)
  have h1 := Nat.gcd_dvd_left n d
  have h2 := Nat.gcd_dvd_right n d
  rw [← Nat.mul_div_assoc n h2, Nat.div_mul_right_comm h1]
theorem frac_scale {n d k : Nat} (hk : 0 < k) : frac (k * n) (k * d) = frac n d := by
  unfold frac
  by_cases c : n = 0
  · rw [if_pos c, c, Nat.mul_zero, if_pos rfl]
  · have c2 : ¬ k * n = 0 := by
      intro z
      rcases Nat.mul_eq_zero.mp z with z | z
      · omega
      · exact c z
    rw [if_neg c, if_neg c2, Nat.gcd_mul_left, Nat.mul_div_mul_left _ _ hk, Nat.mul_div_mul_left _ _ hk]
theorem frac_same {n d m e : Nat} (hd : 0 < d) (he : 0 < e) (h : n * e = m * d) : frac n d = frac m e := by
  rw [← frac_scale (n := n) (d := d) he, ← frac_scale (n := m) (d := e) hd, Nat.mul_comm e n, h, Nat.mul_comm m d, Nat.mul_comm e d]
theorem frac_self {n d : Nat} (hd : 0 < d) : frac (frac n d).n (frac n d).d = frac n d :=
  frac_same (frac_pos hd) hd (frac_cross hd)
theorem whole_frac (n : Nat) : whole n = frac n 1 := by
  rw [frac_eq Nat.one_pos]
  show (⟨n, 1⟩ : Frac) = _
  rw [Nat.gcd_one_right, Nat.div_one, Nat.div_one]
theorem frac_add {a b c d : Nat} (hb : 0 < b) (hd : 0 < d) : (frac a b).add (frac c d) = frac (a * d + c * b) (b * d) := by
  unfold Frac.add
  refine frac_same (Nat.mul_pos (frac_pos hb) (frac_pos hd)) (Nat.mul_pos hb hd) ?_
  have e1 := frac_cross (n := a) hb
  have e2 := frac_cross (n := c) hd
  generalize (frac a b).n = p at *
  generalize (frac a b).d = q at *
  generalize (frac c d).n = r at *
  generalize (frac c d).d = t at *
  calc (p * t + r * q) * (b * d) = (p * b) * (t * d) + (r * d) * (q * b) := by
        rw [Nat.add_mul]; congr 1
        · ac_rfl
        · ac_rfl
    _ = (a * q) * (t * d) + (c * t) * (q * b) := by rw [e1, e2]
    _ = (a * d + c * b) * (q * t) := by
        rw [Nat.add_mul]; congr 1
        · ac_rfl
        · ac_rfl
theorem frac_less {a b c d : Nat} (hb : 0 < b) (hd : 0 < d) : (frac a b).less (frac c d) = frac (a * d - c * b) (b * d) := by
  unfold Frac.less
  refine frac_same (Nat.mul_pos (frac_pos hb) (frac_pos hd)) (Nat.mul_pos hb hd) ?_
  have e1 := frac_cross (n := a) hb
  have e2 := frac_cross (n := c) hd
  generalize (frac a b).n = p at *
  generalize (frac a b).d = q at *
  generalize (frac c d).n = r at *
  generalize (frac c d).d = t at *
  calc (p * t - r * q) * (b * d) = (p * b) * (t * d) - (r * d) * (q * b) := by
        rw [Nat.sub_mul]; congr 1
        · ac_rfl
        · ac_rfl
    _ = (a * q) * (t * d) - (c * t) * (q * b) := by rw [e1, e2]
    _ = (a * d - c * b) * (q * t) := by
        rw [Nat.sub_mul]; congr 1
        · ac_rfl
        · ac_rfl
theorem frac_le {a b c d : Nat} (hb : 0 < b) (hd : 0 < d) : (frac a b).le (frac c d) = decide (a * d ≤ c * b) := by
  unfold Frac.le
  have e1 := frac_cross (n := a) hb
  have e2 := frac_cross (n := c) hd
  have p1 := frac_pos (n := a) hb
  have p2 := frac_pos (n := c) hd
  generalize (frac a b).n = p at *
  generalize (frac a b).d = q at *
  generalize (frac c d).n = r at *
  generalize (frac c d).d = t at *
  have k : p * t ≤ r * q ↔ a * d ≤ c * b := by
    have hbd : 0 < b * d := Nat.mul_pos hb hd
    have hqt : 0 < q * t := Nat.mul_pos p1 p2
    have f1 : p * t * (b * d) = a * d * (q * t) := by
      calc p * t * (b * d) = (p * b) * (t * d) := by ac_rfl
        _ = (a * q) * (t * d) := by rw [e1]
        _ = _ := by ac_rfl
    have f2 : r * q * (b * d) = c * b * (q * t) := by
      calc r * q * (b * d) = (r * d) * (q * b) := by ac_rfl
        _ = (c * t) * (q * b) := by rw [e2]
        _ = _ := by ac_rfl
    constructor
    · intro h
      have h2 := Nat.mul_le_mul_right (b * d) h
      rw [f1, f2] at h2
      exact Nat.le_of_mul_le_mul_right h2 hqt
    · intro h
      have h2 := Nat.mul_le_mul_right (q * t) h
      rw [← f1, ← f2] at h2
      exact Nat.le_of_mul_le_mul_right h2 hbd
  exact decide_eq_decide.mpr k

/-! what's been counted -/
/-- the code's way: from the accumulator and the samples to (upper, lower) -/
def cup : Nat → Series → Nat → Option (Nat × Nat)
  | _, [], _ => none
  | u, [x], t => if t = x.1 then some (u, 1) else none
  | u, x :: y :: l, t => if t < x.1 then none else if t < y.1 then some (u * (y.1 - x.1) + Sq37.step x.2 y.2 * (t - x.1), y.1 - x.1) else cup (u + Sq37.step x.2 y.2) (y :: l) t
/-- strictly by their times -/
abbrev Rise (s : Series) : Prop := s.Pairwise fun x y => x.1 < y.1
theorem cup_pos : ∀ {s : Series} {u t a b : Nat}, cup u s t = some (a, b) → 0 < b
  | [], u, t, a, b, h => by cases h
  | [x], u, t, a, b, h => by
    unfold cup at h
    by_cases c : t = x.1
    · rw [if_pos c] at h; cases h; exact Nat.one_pos
    · rw [if_neg c] at h; cases h
  | x :: y :: l, u, t, a, b, h => by
    unfold cup at h
    by_cases c : t < x.1
    · rw [if_pos c] at h; cases h
    · rw [if_neg c] at h
      by_cases d : t < y.1
      · rw [if_pos d] at h; cases h; omega
      · rw [if_neg d] at h; exact cup_pos h
theorem upTo_cup : ∀ (s : Series) (u t : Nat), Sq37.upTo (Sq37.counted u s) t = (cup u s t).map fun p => frac p.1 p.2
  | [], u, t => rfl
  | [x], u, t => by
    unfold Sq37.counted Sq37.upTo cup
    by_cases c : t = x.1
    · rw [if_pos c, if_pos c]; exact congrArg some (whole_frac u)
    · rw [if_neg c, if_neg c]; rfl
  | x :: y :: l, u, t => by
    have ih := upTo_cup (y :: l) (u + Sq37.step x.2 y.2) t
    obtain ⟨m, e⟩ : ∃ m, Sq37.counted (u + Sq37.step x.2 y.2) (y :: l) = (y.1, u + Sq37.step x.2 y.2) :: m := by
      cases l with
      | nil => exact ⟨_, rfl⟩
      | cons z l => exact ⟨_, rfl⟩
    have e0 : Sq37.counted u (x :: y :: l) = (x.1, u) :: (y.1, u + Sq37.step x.2 y.2) :: m := by rw [← e]; rfl
    rw [e] at ih
    rw [e0]
    show (if t < x.1 then none else if t < y.1 then some ((whole u).add (frac ((u + Sq37.step x.2 y.2 - u) * (t - x.1)) (y.1 - x.1))) else Sq37.upTo ((y.1, u + Sq37.step x.2 y.2) :: m) t) = _
    unfold cup
    by_cases c : t < x.1
    · rw [if_pos c, if_pos c]; rfl
    · rw [if_neg c, if_neg c]
      by_cases d : t < y.1
      · rw [if_pos d, if_pos d]
        refine congrArg some ?_
        have hp : 0 < y.1 - x.1 := by omega
        rw [whole_frac, frac_add Nat.one_pos hp, Nat.add_sub_cancel_left, Nat.mul_one, Nat.one_mul]
      · rw [if_neg d, if_neg d]; exact ih
theorem cup_low : ∀ {s : Series} {u t a b : Nat}, cup u s t = some (a, b) → u * b ≤ a
  | [], u, t, a, b, h => by cases h
  | [x], u, t, a, b, h => by
    unfold cup at h
    by_cases c : t = x.1
    · rw [if_pos c] at h; cases h; omega
    · rw [if_neg c] at h; cases h
  | x :: y :: l, u, t, a, b, h => by
    unfold cup at h
    by_cases c : t < x.1
    · rw [if_pos c] at h; cases h
    · rw [if_neg c] at h
      by_cases d : t < y.1
      · rw [if_pos d] at h; cases h; exact Nat.le_add_right _ _
      · rw [if_neg d] at h
        have q := cup_low h
        rw [Nat.add_mul] at q
        omega
/-- what's been counted never falls -/
theorem cup_mono : ∀ {s : Series} {u t t' a b a' b' : Nat}, t ≤ t' → cup u s t = some (a, b) → cup u s t' = some (a', b') → a * b' ≤ a' * b
  | [], u, t, t', a, b, a', b', _, h, _ => by cases h
  | [x], u, t, t', a, b, a', b', ht, h, h' => by
    unfold cup at h h'
    by_cases c : t = x.1
    · rw [if_pos c] at h; cases h
      by_cases c' : t' = x.1
      · rw [if_pos c'] at h'; cases h'; exact Nat.le_refl _
      · rw [if_neg c'] at h'; cases h'
    · rw [if_neg c] at h; cases h
  | x :: y :: l, u, t, t', a, b, a', b', ht, h, h' => by
    unfold cup at h h'
    by_cases c : t < x.1
    · rw [if_pos c] at h; cases h
    · have c' : ¬ t' < x.1 := by omega
      rw [if_neg c] at h
      rw [if_neg c'] at h'
      by_cases d : t < y.1
      · rw [if_pos d] at h
        cases h
        by_cases d' : t' < y.1
        · rw [if_pos d'] at h'
          cases h'
          refine Nat.mul_le_mul_right _ (Nat.add_le_add_left (Nat.mul_le_mul_left _ ?_) _)
          omega
        · rw [if_neg d'] at h'
          have q := cup_low h'
          have e1 : Sq37.step x.2 y.2 * (t - x.1) ≤ Sq37.step x.2 y.2 * (y.1 - x.1) := Nat.mul_le_mul_left _ (by omega)
          have e2 : u * (y.1 - x.1) + Sq37.step x.2 y.2 * (t - x.1) ≤ (u + Sq37.step x.2 y.2) * (y.1 - x.1) := by
            rw [Nat.add_mul]; omega
          calc (u * (y.1 - x.1) + Sq37.step x.2 y.2 * (t - x.1)) * b' ≤ ((u + Sq37.step x.2 y.2) * (y.1 - x.1)) * b' := Nat.mul_le_mul_right _ e2
            _ = ((u + Sq37.step x.2 y.2) * b') * (y.1 - x.1) := by ac_rfl
            _ ≤ a' * (y.1 - x.1) := Nat.mul_le_mul_right _ q
      · have d' : ¬ t' < y.1 := by omega
        rw [if_neg d] at h
        rw [if_neg d'] at h'
        exact cup_mono ht h h'
/-- the total, the code's way -/
def tot (s : Series) (a b : Nat) : Option (Nat × Nat) := match cup 0 s a, cup 0 s b with
  | some x, some y => some (y.1 * x.2 - x.1 * y.2, x.2 * y.2)
  | _, _ => none
theorem total_tot (s : Series) (a b : Nat) : Sq37.total s a b = (tot s a b).map fun p => frac p.1 p.2 := by
  unfold Sq37.total tot
  show (match Sq37.upTo (Sq37.counted 0 s) a, Sq37.upTo (Sq37.counted 0 s) b with
    | some x, some y => some (y.less x)
    | _, _ => none) = _
  rw [upTo_cup, upTo_cup]
  cases ea : cup 0 s a with
  | none => rfl
  | some x =>
    cases eb : cup 0 s b with
    | none => rfl
    | some y =>
      obtain ⟨a1, b1⟩ := x
      obtain ⟨a2, b2⟩ := y
      show some ((frac a2 b2).less (frac a1 b1)) = some (frac (a2 * b1 - a1 * b2) (b1 * b2))
      rw [frac_less (cup_pos eb) (cup_pos ea), Nat.mul_comm b2 b1]
/-! bounds -/
theorem step_le {a b : Nat} (h : b ≤ 1000000000) : Sq37.step a b ≤ 1000000000 := by
  unfold Sq37.step
  split <;> omega
theorem cup_known : ∀ {s : Series} {u t : Nat}, Rise s → (cup u s t = none ↔ (s = [] ∨ (∃ x, s.head? = some x ∧ t < x.1) ∨ ∃ x, s.getLast? = some x ∧ x.1 < t))
  | [], u, t, _ => by simp [cup]
  | [x], u, t, _ => by
    unfold cup
    by_cases c : t = x.1
    · rw [if_pos c]; simp [c]
    · rw [if_neg c]; simp; omega
  | x :: y :: l, u, t, hr => by
    have hr' := List.pairwise_cons.mp hr
    have hxy : x.1 < y.1 := hr'.1 y (List.mem_cons_self ..)
    have ih := cup_known (u := u + Sq37.step x.2 y.2) (t := t) hr'.2
    unfold cup
    by_cases c : t < x.1
    · rw [if_pos c]; simp [c]
    · rw [if_neg c]
      by_cases d : t < y.1
      · rw [if_pos d]
        have hl : ∀ z, (y :: l).getLast? = some z → y.1 ≤ z.1 := by
          intro z hz
          have hz' := List.mem_of_getLast? hz
          rcases List.mem_cons.mp hz' with e | e
          · rw [e]; exact Nat.le_refl _
          · exact Nat.le_of_lt ((List.pairwise_cons.mp hr'.2).1 z e)
        constructor
        · intro h; cases h
        · rintro (h | ⟨z, h, h2⟩ | ⟨z, h, h2⟩)
          · cases h
          · cases h; exact absurd h2 c
          · rw [List.getLast?_cons_cons] at h
            have := hl z h
            omega
      · rw [if_neg d, ih]
        rw [List.getLast?_cons_cons]
        constructor
        · rintro (h | ⟨z, h, h2⟩ | h)
          · cases h
          · cases h; exact absurd h2 d
          · exact .inr (.inr h)
        · rintro (h | ⟨z, h, h2⟩ | h)
          · cases h
          · cases h; exact absurd h2 c
          · exact .inr (.inr h)
theorem cup_le : ∀ {s : Series} {u t a b : Nat}, cup u s t = some (a, b) → (∀ x ∈ s, x.1 ≤ 1000000) → (∀ x ∈ s, x.2 ≤ 1000000000) → b ≤ 1000000 ∧ a ≤ (u + 1000000000 * s.length) * 1000000
  | [], u, t, a, b, h, _, _ => by cases h
  | [x], u, t, a, b, h, _, _ => by
    unfold cup at h
    by_cases c : t = x.1
    · rw [if_pos c] at h; cases h
      simp only [List.length_cons, List.length_nil]
      omega
    · rw [if_neg c] at h; cases h
  | x :: y :: l, u, t, a, b, h, h1, h2 => by
    unfold cup at h
    by_cases c : t < x.1
    · rw [if_pos c] at h; cases h
    · rw [if_neg c] at h
      have hs := step_le (a := x.2) (h2 y (by simp))
      have ty := h1 y (by simp)
      have hl : (x :: y :: l).length = (y :: l).length + 1 := rfl
      by_cases d : t < y.1
      · rw [if_pos d] at h
        cases h
        refine ⟨by omega, ?_⟩
        have e1 : u * (y.1 - x.1) ≤ u * 1000000 := Nat.mul_le_mul_left _ (by omega)
        have e2 : Sq37.step x.2 y.2 * (t - x.1) ≤ 1000000000 * 1000000 := Nat.mul_le_mul hs (by omega)
        have e3 : 1000000000 * (x :: y :: l).length = 1000000000 * (y :: l).length + 1000000000 := by rw [hl]; omega
        rw [e3, Nat.add_mul, Nat.add_mul]
        omega
      · rw [if_neg d] at h
        obtain ⟨q1, q2⟩ := cup_le h (fun z hz => h1 z (List.mem_cons_of_mem _ hz)) (fun z hz => h2 z (List.mem_cons_of_mem _ hz))
        refine ⟨q1, Nat.le_trans q2 (Nat.mul_le_mul_right _ ?_)⟩
        rw [hl]
        omega
theorem tot_pos {s : Series} {a b n d : Nat} (h : tot s a b = some (n, d)) : 0 < d := by
  unfold tot at h
  cases ea : cup 0 s a with
  | none => rw [ea] at h; cases h
  | some x =>
    cases eb : cup 0 s b with
    | none => rw [ea, eb] at h; cases h
    | some y =>
      rw [ea, eb] at h
      cases h
      obtain ⟨a1, b1⟩ := x
      obtain ⟨a2, b2⟩ := y
      exact Nat.mul_pos (cup_pos ea) (cup_pos eb)
theorem tot_le {s : Series} {a b n d : Nat} (h : tot s a b = some (n, d)) (h1 : ∀ x ∈ s, x.1 ≤ 1000000) (h2 : ∀ x ∈ s, x.2 ≤ 1000000000) (hl : s.length ≤ 60) : d ≤ 1000000000000 ∧ n ≤ 60000000000000000000000 := by
  unfold tot at h
  cases ea : cup 0 s a with
  | none => rw [ea] at h; cases h
  | some x =>
    cases eb : cup 0 s b with
    | none => rw [ea, eb] at h; cases h
    | some y =>
      rw [ea, eb] at h
      cases h
      obtain ⟨a1, b1⟩ := x
      obtain ⟨a2, b2⟩ := y
      obtain ⟨p1, p2⟩ := cup_le ea h1 h2
      obtain ⟨q1, q2⟩ := cup_le eb h1 h2
      refine ⟨Nat.le_trans (Nat.mul_le_mul p1 q1) (by decide), ?_⟩
      have k : a2 ≤ 60000000000000000 := by omega
      exact Nat.le_trans (Nat.sub_le _ _) (Nat.le_trans (Nat.mul_le_mul k p1) (by decide))
theorem cup_in : ∀ {s : Series} {u t a b : Nat}, cup u s t = some (a, b) → (∀ x ∈ s, x.1 ≤ 1000000) → t ≤ 1000000
  | [], u, t, a, b, h, _ => by cases h
  | [x], u, t, a, b, h, h1 => by
    unfold cup at h
    by_cases c : t = x.1
    · rw [c]; exact h1 x (by simp)
    · rw [if_neg c] at h; cases h
  | x :: y :: l, u, t, a, b, h, h1 => by
    unfold cup at h
    by_cases c : t < x.1
    · rw [if_pos c] at h; cases h
    · rw [if_neg c] at h
      by_cases d : t < y.1
      · have := h1 y (by simp)
        omega
      · rw [if_neg d] at h
        exact cup_in h fun z hz => h1 z (List.mem_cons_of_mem _ hz)
theorem tot_known {s : Series} {a b n d : Nat} (h : tot s a b = some (n, d)) (_ : Rise s) (h1 : ∀ x ∈ s, x.1 ≤ 1000000) : b ≤ 1000000 := by
  unfold tot at h
  cases ea : cup 0 s a with
  | none => rw [ea] at h; cases h
  | some x =>
    cases eb : cup 0 s b with
    | none => rw [ea, eb] at h; cases h
    | some y => exact cup_in (a := y.1) (b := y.2) eb h1
theorem frac_rate {n m k : Nat} (hm : 0 < m) (hk : 0 < k) : frac (frac n m).n ((frac n m).d * k) = frac n (m * k) := by
  refine frac_same (Nat.mul_pos (frac_pos hm) hk) (Nat.mul_pos hm hk) ?_
  rw [← Nat.mul_assoc, frac_cross hm, Nat.mul_assoc]
end Ac

set_option Elab.async false
/-! The mathematics of most, top, sum, when: apart from any program -/
namespace Ac
open Sq37 (Frac frac whole Series)
/-- in lowest terms -/
structure Can (f : Frac) : Prop where
  pos : 0 < f.d
  low : frac f.n f.d = f
theorem can_frac {n d : Nat} (h : 0 < d) : Can (frac n d) := ⟨frac_pos h, frac_self h⟩
theorem can_whole (n : Nat) : Can (whole n) := by rw [whole_frac]; exact can_frac Nat.one_pos
theorem le_iff {a b : Frac} : a.le b = true ↔ a.n * b.d ≤ b.n * a.d := by unfold Frac.le; exact decide_eq_true_iff
theorem le_not {a b : Frac} : a.le b = false ↔ b.n * a.d < a.n * b.d := by
  unfold Frac.le
  rw [decide_eq_false_iff_not]
  omega
theorem le_refl' (a : Frac) : a.le a = true := le_iff.mpr (Nat.le_refl _)
theorem le_trans' {a b c : Frac} (hb : 0 < b.d) (h1 : a.le b = true) (h2 : b.le c = true) : a.le c = true := by
  rw [le_iff] at *
  have e1 := Nat.mul_le_mul_right c.d h1
  have e2 := Nat.mul_le_mul_right a.d h2
  refine Nat.le_of_mul_le_mul_right ?_ hb
  calc a.n * c.d * b.d = a.n * b.d * c.d := by ac_rfl
    _ ≤ b.n * a.d * c.d := e1
    _ = b.n * c.d * a.d := by ac_rfl
    _ ≤ c.n * b.d * a.d := e2
    _ = c.n * a.d * b.d := by ac_rfl
theorem le_total' {a b : Frac} (h : a.le b = false) : b.le a = true := by
  rw [le_not] at h
  rw [le_iff]
  omega
theorem le_antisymm' {a b : Frac} (ha : Can a) (hb : Can b) (h1 : a.le b = true) (h2 : b.le a = true) : a = b := by
  rw [le_iff] at h1 h2
  rw [← ha.low, ← hb.low]
  exact frac_same ha.pos hb.pos (by omega)
/-! ### most -/
/-- x is better than y: greater, or as great and earlier -/
def better (x y : Nat × Frac) : Prop := x.2.le y.2 = false ∨ (y.2.le x.2 = true ∧ x.1 < y.1)
instance (x y : Nat × Frac) : Decidable (better x y) := by unfold better; infer_instance
def pick (m : Option (Nat × Frac)) (x : Nat × Frac) : Option (Nat × Frac) := match m with
  | none => some x
  | some y => if better x y then some x else some y
theorem pick_pos {x w : Nat × Frac} (c : better x w) : pick (some w) x = some x := if_pos c
theorem pick_neg {x w : Nat × Frac} (c : ¬ better x w) : pick (some w) x = some w := if_neg c
theorem better_trans {x y z : Nat × Frac} (hx : 0 < x.2.d) (hy : 0 < y.2.d) (hz : 0 < z.2.d) (h1 : ¬ better x y) (h2 : ¬ better y z) : ¬ better x z := by
  unfold better at *
  have k1 : x.2.le y.2 = true := by cases e : x.2.le y.2 with | true => rfl | false => exact absurd (.inl e) h1
  have k2 : y.2.le z.2 = true := by cases e : y.2.le z.2 with | true => rfl | false => exact absurd (.inl e) h2
  have k3 := le_trans' hy k1 k2
  rintro (h | ⟨h, h'⟩)
  · rw [k3] at h; cases h
  · have a1 : y.2.le x.2 = true := le_trans' hz k2 h
    have a2 : z.2.le y.2 = true := le_trans' hx h k1
    have b1 : ¬ x.1 < y.1 := fun q => h1 (.inr ⟨a1, q⟩)
    have b2 : ¬ y.1 < z.1 := fun q => h2 (.inr ⟨a2, q⟩)
    omega
theorem better_irrefl (x : Nat × Frac) : ¬ better x x := by
  rintro (h | ⟨_, h⟩)
  · rw [le_refl'] at h; cases h
  · omega
theorem better_asymm {x y : Nat × Frac} (h : better x y) : ¬ better y x := by
  unfold better at *
  rintro (g | ⟨g, g'⟩)
  · rcases h with h | ⟨h, h'⟩
    · rw [le_total' h] at g; cases g
    · rw [h] at g; cases g
  · rcases h with h | ⟨h, h'⟩
    · rw [g] at h; cases h
    · omega
/-- what the picking keeps: one of them that none is better than -/
theorem pick_all : ∀ (l : List (Nat × Frac)) (m : Option (Nat × Frac)), (∀ x ∈ l, 0 < x.2.d) → (∀ y, m = some y → 0 < y.2.d) →
    match l.foldl pick m with
    | none => m = none ∧ l = []
    | some z => (m = some z ∨ z ∈ l) ∧ (∀ y, m = some y → ¬ better y z) ∧ ∀ x ∈ l, ¬ better x z
  | [], m, _, _ => by
    cases m with
    | none => exact ⟨rfl, rfl⟩
    | some y => exact ⟨.inl rfl, fun z e => by cases e; exact better_irrefl _, fun _ h => by cases h⟩
  | x :: l, m, hl, hm => by
    have hx := hl x (List.mem_cons_self ..)
    have ih := pick_all l (pick m x) (fun y hy => hl y (List.mem_cons_of_mem _ hy)) (fun y e => by
      cases m with
      | none => cases e; exact hx
      | some w =>
        by_cases c : better x w
        · rw [pick_pos c] at e; cases e; exact hx
        · rw [pick_neg c] at e; cases e; exact hm _ rfl)
    rw [List.foldl_cons]
    cases e : l.foldl pick (pick m x) with
    | none =>
      rw [e] at ih
      obtain ⟨h1, _⟩ := ih
      cases m with
      | none => cases h1
      | some w =>
        by_cases c : better x w
        · rw [pick_pos c] at h1; cases h1
        · rw [pick_neg c] at h1; cases h1
    | some z =>
      rw [e] at ih
      obtain ⟨h1, h2, h3⟩ := ih
      have zp : 0 < z.2.d := by
        rcases h1 with q | q
        · cases m with
          | none => cases q; exact hx
          | some w =>
            by_cases c : better x w
            · rw [pick_pos c] at q; cases q; exact hx
            · rw [pick_neg c] at q; cases q; exact hm _ rfl
        · exact hl z (List.mem_cons_of_mem _ q)
      cases m with
      | none =>
        refine ⟨.inr ?_, (fun y q => by cases q), fun y hy => ?_⟩
        · rcases h1 with q | q
          · cases q; exact List.mem_cons_self ..
          · exact List.mem_cons_of_mem _ q
        · rcases List.mem_cons.mp hy with q | q
          · rw [q]; exact h2 x rfl
          · exact h3 y q
      | some w =>
        have wp := hm w rfl
        by_cases c : better x w
        · have ep := pick_pos c
          rw [ep] at h1 h2
          refine ⟨.inr ?_, fun y q => ?_, fun y hy => ?_⟩
          · rcases h1 with q | q
            · cases q; exact List.mem_cons_self ..
            · exact List.mem_cons_of_mem _ q
          · cases q
            exact better_trans wp hx zp (better_asymm c) (h2 x rfl)
          · rcases List.mem_cons.mp hy with q | q
            · rw [q]; exact h2 x rfl
            · exact h3 y q
        · have ep := pick_neg c
          rw [ep] at h1 h2
          refine ⟨?_, h2, fun y hy => ?_⟩
          · rcases h1 with q | q
            · exact .inl q
            · exact .inr (List.mem_cons_of_mem _ q)
          · rcases List.mem_cons.mp hy with q | q
            · rw [q]; exact better_trans hx wp zp c (h2 w rfl)
            · exact h3 y q
/-- all windows that are asked about, with their totals -/
def wins (s : Series) (w : Nat) : List (Nat × Frac) := (Sq37.begins s w).filterMap fun t => (Sq37.total s t (t + w)).map fun f => (t, f)
theorem most_pick (s : Series) (w : Nat) : Sq37.most s w = (wins s w).foldl pick none := by
  unfold Sq37.most wins
  congr 1
theorem total_can {s : Series} {a b : Nat} {f : Frac} (h : Sq37.total s a b = some f) : Can f := by
  rw [total_tot] at h
  cases e : tot s a b with
  | none => rw [e] at h; cases h
  | some p =>
    rw [e] at h
    cases h
    obtain ⟨n, d⟩ := p
    exact can_frac (tot_pos e)
theorem wins_mem {s : Series} {w t : Nat} {f : Frac} : (t, f) ∈ wins s w ↔ t ∈ Sq37.begins s w ∧ Sq37.total s t (t + w) = some f := by
  unfold wins
  rw [List.mem_filterMap]
  constructor
  · rintro ⟨t', h1, h2⟩
    cases e : Sq37.total s t' (t' + w) with
    | none => rw [e] at h2; cases h2
    | some g =>
      rw [e] at h2
      cases h2
      exact ⟨h1, e⟩
  · rintro ⟨h1, h2⟩
    exact ⟨t, h1, by rw [h2]; rfl⟩
/-- **most is the one window that none is better than** -/
theorem most_is {s : Series} {w t : Nat} {f : Frac} (h1 : t ∈ Sq37.begins s w) (h2 : Sq37.total s t (t + w) = some f) (h3 : ∀ t' f', t' ∈ Sq37.begins s w → Sq37.total s t' (t' + w) = some f' → ¬ better (t', f') (t, f)) : Sq37.most s w = some (t, f) := by
  have hm : (t, f) ∈ wins s w := wins_mem.mpr ⟨h1, h2⟩
  have hp : ∀ x ∈ wins s w, 0 < x.2.d := fun x hx => (total_can (wins_mem.mp (show (x.1, x.2) ∈ wins s w from hx)).2).pos
  have k := pick_all (wins s w) none hp (fun y e => by cases e)
  rw [← most_pick] at k
  cases e : Sq37.most s w with
  | none =>
    rw [e] at k
    rw [k.2] at hm
    cases hm
  | some z =>
    rw [e] at k
    obtain ⟨k1, _, k3⟩ := k
    have zm : z ∈ wins s w := by
      rcases k1 with q | q
      · cases q
      · exact q
    obtain ⟨z1, z2⟩ := wins_mem.mp (show (z.1, z.2) ∈ wins s w from zm)
    have n1 := k3 _ hm
    have n2 := h3 _ _ z1 z2
    have a1 : f.le z.2 = true := by cases q : f.le z.2 with | true => rfl | false => exact absurd (.inl q) n1
    have a2 : z.2.le f = true := by cases q : z.2.le f with | true => rfl | false => exact absurd (.inl q) n2
    have b1 : ¬ t < z.1 := fun q => n1 (.inr ⟨a2, q⟩)
    have b2 : ¬ z.1 < t := fun q => n2 (.inr ⟨a1, q⟩)
    have c1 : z.1 = t := by omega
    have c2 : z.2 = f := le_antisymm' (total_can z2) (total_can h2) a2 a1
    rw [← c1, ← c2]
theorem most_no {s : Series} {w : Nat} (h : ∀ t, t ∈ Sq37.begins s w → Sq37.total s t (t + w) = none) : Sq37.most s w = none := by
  have e : wins s w = [] := by
    refine List.eq_nil_iff_forall_not_mem.mpr fun x hx => ?_
    obtain ⟨h1, h2⟩ := wins_mem.mp (show (x.1, x.2) ∈ wins s w from hx)
    rw [h x.1 h1] at h2
    cases h2
  rw [most_pick, e]
  rfl
theorem begins_mem {s : Series} {w t : Nat} : t ∈ Sq37.begins s w ↔ ∃ x ∈ s, t = x.1 ∨ (w ≤ x.1 ∧ t = x.1 - w) := by
  unfold Sq37.begins
  rw [List.mem_flatMap]
  constructor
  · rintro ⟨x, hx, h⟩
    refine ⟨x, hx, ?_⟩
    rcases List.mem_append.mp h with q | q
    · exact .inl (List.mem_singleton.mp q)
    · by_cases c : w ≤ x.1
      · rw [if_pos c] at q
        exact .inr ⟨c, List.mem_singleton.mp q⟩
      · rw [if_neg c] at q
        cases q
  · rintro ⟨x, hx, h⟩
    refine ⟨x, hx, ?_⟩
    rcases h with h | ⟨h, h'⟩
    · exact List.mem_append.mpr (.inl (by rw [h]; exact List.mem_singleton.mpr rfl))
    · exact List.mem_append.mpr (.inr (by rw [if_pos h, h']; exact List.mem_singleton.mpr rfl))
/-! ### top -/
/-- x stands ahead of y -/
def ahead (x y : Nat × Frac) : Prop := x.2.le y.2 = false ∨ (x.2.le y.2 = true ∧ y.2.le x.2 = true ∧ x.1 < y.1)
theorem rank_perm (x : Nat × Frac) : ∀ l : List (Nat × Frac), (Sq37.rank x l).Perm (x :: l)
  | [] => List.Perm.refl _
  | y :: l => by
    unfold Sq37.rank
    by_cases c : x.2.le y.2 = true
    · rw [if_pos c]
      exact ((rank_perm x l).cons y).trans (List.Perm.swap ..)
    · rw [if_neg c]
theorem ahead_trans {x y z : Nat × Frac} (hx : 0 < x.2.d) (hy : 0 < y.2.d) (hz : 0 < z.2.d) (h1 : ahead x y) (h2 : ahead y z) : ahead x z := by
  unfold ahead at *
  have k1 : y.2.le x.2 = true := by rcases h1 with h | h; exact le_total' h; exact h.2.1
  have k2 : z.2.le y.2 = true := by rcases h2 with h | h; exact le_total' h; exact h.2.1
  cases e : x.2.le z.2 with
  | false => exact .inl rfl
  | true =>
    have a1 : x.2.le y.2 = true := le_trans' hz e k2
    have a2 : y.2.le z.2 = true := le_trans' hx k1 e
    refine .inr ⟨rfl, le_trans' hy k2 k1, ?_⟩
    rcases h1 with h | h
    · rw [a1] at h; cases h
    · rcases h2 with g | g
      · rw [a2] at g; cases g
      · omega
theorem rank_sorted {x : Nat × Frac} : ∀ {l : List (Nat × Frac)}, 0 < x.2.d → (∀ y ∈ l, 0 < y.2.d) → l.Pairwise ahead → (∀ y ∈ l, y.1 < x.1) → (Sq37.rank x l).Pairwise ahead
  | [], _, _, _, _ => List.pairwise_singleton _ _
  | y :: l, hx, hl, hs, hi => by
    have hs' := List.pairwise_cons.mp hs
    have hy := hl y (List.mem_cons_self ..)
    unfold Sq37.rank
    by_cases c : x.2.le y.2 = true
    · rw [if_pos c]
      refine List.pairwise_cons.mpr ⟨fun z hz => ?_, rank_sorted hx (fun z hz => hl z (List.mem_cons_of_mem _ hz)) hs'.2 (fun z hz => hi z (List.mem_cons_of_mem _ hz))⟩
      rcases List.mem_cons.mp ((rank_perm x l).mem_iff.mp hz) with e | e
      · rw [e]
        cases q : y.2.le x.2 with
        | false => exact .inl q
        | true => exact .inr ⟨q, c, hi y (List.mem_cons_self ..)⟩
      · exact hs'.1 z e
    · rw [if_neg c]
      have c' : x.2.le y.2 = false := by cases q : x.2.le y.2 with | false => rfl | true => exact absurd q c
      refine List.pairwise_cons.mpr ⟨fun z hz => ?_, hs⟩
      rcases List.mem_cons.mp hz with e | e
      · rw [e]; exact .inl c'
      · exact ahead_trans hx hy (hl z hz) (.inl c') (hs'.1 z e)
theorem ranked : ∀ (l m : List (Nat × Frac)), (∀ y ∈ l, 0 < y.2.d) → (∀ y ∈ m, 0 < y.2.d) → m.Pairwise ahead → l.Pairwise (fun x y => x.1 < y.1) → (∀ x ∈ l, ∀ y ∈ m, y.1 < x.1) →
    (l.foldl (fun m x => Sq37.rank x m) m).Perm (l ++ m) ∧ (l.foldl (fun m x => Sq37.rank x m) m).Pairwise ahead
  | [], m, _, _, hs, _, _ => ⟨List.Perm.refl _, hs⟩
  | x :: l, m, hl, hm, hs, ho, hi => by
    have ho' := List.pairwise_cons.mp ho
    have hx := hl x (List.mem_cons_self ..)
    obtain ⟨h1, h2⟩ := ranked l (Sq37.rank x m) (fun y hy => hl y (List.mem_cons_of_mem _ hy)) (fun y hy => by
        rcases List.mem_cons.mp ((rank_perm x m).mem_iff.mp hy) with e | e
        · rw [e]; exact hx
        · exact hm y e) (rank_sorted hx hm hs fun y hy => hi x (List.mem_cons_self ..) y hy) ho'.2 (fun z hz y hy => by
        rcases List.mem_cons.mp ((rank_perm x m).mem_iff.mp hy) with e | e
        · rw [e]; exact ho'.1 z hz
        · exact hi z (List.mem_cons_of_mem _ hz) y e)
    refine ⟨?_, h2⟩
    exact h1.trans ((List.Perm.append_left l (rank_perm x m)).trans List.perm_middle)
theorem ahead_asymm {x y : Nat × Frac} (h : ahead x y) : ¬ ahead y x := by
  unfold ahead at *
  rintro (g | ⟨g, g', g''⟩)
  · rcases h with h | ⟨h, h', h''⟩
    · rw [le_total' h] at g; cases g
    · rw [h'] at g; cases g
  · rcases h with h | ⟨h, h', h''⟩
    · rw [g'] at h; cases h
    · omega
/-- two arrangements by this order are one -/
theorem ahead_uniq : ∀ {l m : List (Nat × Frac)}, l.Perm m → l.Pairwise ahead → m.Pairwise ahead → l = m
  | [], m, p, _, _ => (List.Perm.eq_nil p.symm).symm
  | x :: l, [], p, _, _ => absurd p.length_eq (by simp)
  | x :: l, y :: m, p, hl, hm => by
    have hl' := List.pairwise_cons.mp hl
    have hm' := List.pairwise_cons.mp hm
    have e : x = y := by
      rcases List.mem_cons.mp (p.mem_iff.mp (List.mem_cons_self ..)) with e | h1
      · exact e
      · rcases List.mem_cons.mp (p.mem_iff.mpr (List.mem_cons_self (a := y))) with e | h2
        · exact e.symm
        · exact absurd (hm'.1 x h1) (ahead_asymm (hl'.1 y h2))
    subst e
    rw [ahead_uniq (List.Perm.cons_inv p) hl'.2 hm'.2]
/-! ### sum -/
/-- fractions as they come added, one behind another -/
def addP (p q : Nat × Nat) : Nat × Nat := (p.1 * q.2 + q.1 * p.2, p.2 * q.2)
theorem every_fold : ∀ (l : List (Nat × Nat)) (p : Nat × Nat), 0 < p.2 → (∀ q ∈ l, 0 < q.2) → ∃ f, Sq37.every (l.map fun q => some (frac q.1 q.2)) = some f ∧ Can f ∧ (frac p.1 p.2).add f = frac (l.foldl addP p).1 (l.foldl addP p).2 ∧ 0 < (l.foldl addP p).2
  | [], p, hp, _ => by
    refine ⟨⟨0, 1⟩, rfl, can_whole 0, ?_, hp⟩
    show (frac p.1 p.2).add (whole 0) = frac p.1 p.2
    rw [whole_frac, frac_add hp Nat.one_pos, Nat.mul_one, Nat.zero_mul, Nat.add_zero, Nat.mul_one]
  | q :: l, p, hp, h => by
    have hq := h q (List.mem_cons_self ..)
    obtain ⟨f, h1, h2, h3, h4⟩ := every_fold l (addP p q) (Nat.mul_pos hp hq) (fun r hr => h r (List.mem_cons_of_mem _ hr))
    refine ⟨(frac q.1 q.2).add f, ?_, ?_, ?_, h4⟩
    · show (match some (frac q.1 q.2), Sq37.every (l.map fun q => some (frac q.1 q.2)) with
        | some a, some b => some (a.add b)
        | _, _ => none) = _
      rw [h1]
    · unfold Frac.add
      exact can_frac (Nat.mul_pos (frac_pos hq) h2.pos)
    · rw [List.foldl_cons, ← h3]
      rw [← h2.low, frac_add hq h2.pos, frac_add hp (Nat.mul_pos hq h2.pos)]
      show _ = (frac (p.1 * q.2 + q.1 * p.2) (p.2 * q.2)).add (frac f.n f.d)
      rw [frac_add (Nat.mul_pos hp hq) h2.pos]
      congr 1
      · rw [Nat.add_mul, Nat.add_mul, Nat.mul_assoc, Nat.mul_assoc, Nat.mul_assoc, Nat.add_assoc]
        congr 1
        congr 1
        · ac_rfl
        · ac_rfl
      · ac_rfl
theorem every_none : ∀ {l : List (Option Frac)}, none ∈ l → Sq37.every l = none
  | [], h => by cases h
  | x :: l, h => by
    show (match x, Sq37.every l with
      | some a, some b => some (a.add b)
      | _, _ => none) = none
    cases x with
    | none => rfl
    | some a =>
      rcases List.mem_cons.mp h with e | e
      · cases e
      · rw [every_none e]
/-! ### when -/
/-- the code's way to the time at which n / d has been counted -/
def rea : Nat → Series → Nat → Nat → Option (Nat × Nat)
  | _, [], _, _ => none
  | u, [x], n, d => if n ≤ u * d then some (x.1, 1) else none
  | u, x :: y :: l, n, d => if n ≤ u * d then some (x.1, 1)
    else if n ≤ (u + Sq37.step x.2 y.2) * d then some (x.1 * (d * Sq37.step x.2 y.2) + (n - u * d) * (y.1 - x.1), d * Sq37.step x.2 y.2)
    else rea (u + Sq37.step x.2 y.2) (y :: l) n d
theorem le_whole {n d k : Nat} (hd : 0 < d) : (frac n d).le (whole k) = decide (n ≤ k * d) := by
  rw [whole_frac, frac_le hd Nat.one_pos, Nat.mul_one]
theorem reached_rea : ∀ (s : Series) (u n d : Nat), 0 < d → Sq37.reached (Sq37.counted u s) (frac n d) = (rea u s n d).map fun p => frac p.1 p.2
  | [], u, n, d, _ => rfl
  | [x], u, n, d, hd => by
    show (if (frac n d).le (whole u) = true then some (whole x.1) else none) = (if n ≤ u * d then some (x.1, 1) else none).map fun p => frac p.1 p.2
    rw [le_whole hd]
    by_cases c : n ≤ u * d
    · rw [if_pos (decide_eq_true c), if_pos c]
      exact congrArg some (whole_frac _)
    · rw [if_neg (by rw [decide_eq_false c]; decide), if_neg c]
      rfl
  | x :: y :: l, u, n, d, hd => by
    have ih := reached_rea (y :: l) (u + Sq37.step x.2 y.2) n d hd
    obtain ⟨m, e⟩ : ∃ m, Sq37.counted (u + Sq37.step x.2 y.2) (y :: l) = (y.1, u + Sq37.step x.2 y.2) :: m := by
      cases l with
      | nil => exact ⟨_, rfl⟩
      | cons z l => exact ⟨_, rfl⟩
    have e0 : Sq37.counted u (x :: y :: l) = (x.1, u) :: (y.1, u + Sq37.step x.2 y.2) :: m := by rw [← e]; rfl
    rw [e] at ih
    rw [e0]
    show (if (frac n d).le (whole u) = true then some (whole x.1) else if (frac n d).le (whole (u + Sq37.step x.2 y.2)) = true then some ((whole x.1).add (frac (((frac n d).n - u * (frac n d).d) * (y.1 - x.1)) ((frac n d).d * (u + Sq37.step x.2 y.2 - u)))) else Sq37.reached ((y.1, u + Sq37.step x.2 y.2) :: m) (frac n d)) = _
    rw [le_whole hd, le_whole hd]
    unfold rea
    by_cases c : n ≤ u * d
    · rw [if_pos (decide_eq_true c), if_pos c]
      exact congrArg some (whole_frac _)
    · rw [if_neg (by rw [decide_eq_false c]; decide), if_neg c]
      by_cases c2 : n ≤ (u + Sq37.step x.2 y.2) * d
      · rw [if_pos (decide_eq_true c2), if_pos c2]
        refine congrArg some ?_
        have hst : 0 < Sq37.step x.2 y.2 := by
          rcases Nat.eq_zero_or_pos (Sq37.step x.2 y.2) with z | z
          · rw [z, Nat.add_zero] at c2
            exact absurd c2 c
          · exact z
        rw [Nat.add_sub_cancel_left]
        have gp := frac_pos (n := n) hd
        have gc := frac_cross (n := n) hd
        have e3 : frac (((frac n d).n - u * (frac n d).d) * (y.1 - x.1)) ((frac n d).d * Sq37.step x.2 y.2) = frac ((n - u * d) * (y.1 - x.1)) (d * Sq37.step x.2 y.2) := by
          refine frac_same (Nat.mul_pos gp hst) (Nat.mul_pos hd hst) ?_
          have e4 : ((frac n d).n - u * (frac n d).d) * d = (n - u * d) * (frac n d).d := by
            rw [Nat.sub_mul, Nat.sub_mul, gc]
            congr 1
            ac_rfl
          calc ((frac n d).n - u * (frac n d).d) * (y.1 - x.1) * (d * Sq37.step x.2 y.2) = (((frac n d).n - u * (frac n d).d) * d) * ((y.1 - x.1) * Sq37.step x.2 y.2) := by ac_rfl
            _ = ((n - u * d) * (frac n d).d) * ((y.1 - x.1) * Sq37.step x.2 y.2) := by rw [e4]
            _ = _ := by ac_rfl
        rw [e3, whole_frac, frac_add Nat.one_pos (Nat.mul_pos hd hst), Nat.mul_one, Nat.one_mul]
      · rw [if_neg (by rw [decide_eq_false c2]; decide), if_neg c2]
        exact ih
end Ac

set_option Elab.async false
/-! More mathematics: sum by counts, where the ranked stand, when's bounds -/
namespace Ac
open Sq37 (Frac frac whole Series)

/-! when -/
theorem rea_bnd : ∀ {s : Series} {u n d a b : Nat}, 0 < d → (∀ x ∈ s, x.2 ≤ 1000000000) → rea u s n d = some (a, b) → 0 < b ∧ b ≤ d * 1000000000
  | [], u, n, d, a, b, _, _, h => by cases h
  | [x], u, n, d, a, b, hd, _, h => by
    unfold rea at h
    by_cases c : n ≤ u * d
    · rw [if_pos c] at h; cases h; omega
    · rw [if_neg c] at h; cases h
  | x :: y :: l, u, n, d, a, b, hd, hv, h => by
    unfold rea at h
    by_cases c : n ≤ u * d
    · rw [if_pos c] at h; cases h; omega
    · rw [if_neg c] at h
      by_cases c2 : n ≤ (u + Sq37.step x.2 y.2) * d
      · rw [if_pos c2] at h
        cases h
        have hst : 0 < Sq37.step x.2 y.2 := by
          rcases Nat.eq_zero_or_pos (Sq37.step x.2 y.2) with z | z
          · rw [z, Nat.add_zero] at c2
            exact absurd c2 c
          · exact z
        exact ⟨Nat.mul_pos hd hst, Nat.mul_le_mul_left _ (step_le (hv y (by simp)))⟩
      · rw [if_neg c2] at h
        exact rea_bnd hd (fun z hz => hv z (List.mem_cons_of_mem _ hz)) h

/-! sum -/
/-- the totals over one lower number -/
theorem every_same {D : Nat} (hD : 0 < D) (N : Nat → Nat) : ∀ l : List Nat, Sq37.every (l.map fun s => some (frac (N s) D)) = some (frac (l.map N).sum D)
  | [] => by
    show some (⟨0, 1⟩ : Frac) = some (frac 0 D)
    unfold frac
    rw [if_pos rfl]
  | x :: l => by
    have ih := every_same hD N l
    show (match some (frac (N x) D), Sq37.every (l.map fun s => some (frac (N s) D)) with
      | some a, some b => some (a.add b)
      | _, _ => none) = _
    rw [ih]
    refine congrArg some ?_
    rw [frac_add hD hD, List.map_cons, List.sum_cons, ← Nat.add_mul, Nat.mul_comm _ D, frac_scale hD]
/-- by counts -/
def csum (N : Nat → Nat) (l : List Nat) : Nat → Nat
  | 0 => 0
  | m + 1 => csum N l m + l.count m * N m
theorem csum_nil (N : Nat → Nat) : ∀ m, csum N [] m = 0
  | 0 => rfl
  | m + 1 => by
    unfold csum
    rw [csum_nil N m, List.count_nil, Nat.zero_mul]
theorem csum_cons (N : Nat → Nat) (x : Nat) (l : List Nat) : ∀ m, csum N (x :: l) m = csum N l m + (if x < m then N x else 0)
  | 0 => rfl
  | m + 1 => by
    unfold csum
    rw [csum_cons N x l m, List.count_cons]
    by_cases c : x = m
    · subst c
      rw [if_neg (Nat.lt_irrefl _), if_pos (beq_self_eq_true _), if_pos (Nat.lt_succ_self _), Nat.add_mul, Nat.one_mul]
      omega
    · rw [if_neg (show ¬ (x == m) = true by simpa using c), Nat.add_zero]
      by_cases c2 : x < m
      · rw [if_pos c2, if_pos (by omega)]
        omega
      · rw [if_neg c2, if_neg (by omega)]
        omega
theorem csum_sum (N : Nat → Nat) (m : Nat) : ∀ l : List Nat, (∀ x ∈ l, x < m) → (l.map N).sum = csum N l m
  | [], _ => by rw [csum_nil]; rfl
  | x :: l, h => by
    rw [List.map_cons, List.sum_cons, csum_sum N m l (fun y hy => h y (List.mem_cons_of_mem _ hy)), csum_cons, if_pos (h x (List.mem_cons_self ..))]
    omega
/-- the lower number of all -/
def dprod (a b : Nat) : List Series → Nat
  | [] => 1
  | s :: h => ((tot s a b).map (·.2)).getD 1 * dprod a b h
theorem dprod_pos {a b : Nat} : ∀ h : List Series, 0 < dprod a b h
  | [] => Nat.one_pos
  | s :: h => by
    unfold dprod
    refine Nat.mul_pos ?_ (dprod_pos h)
    cases e : tot s a b with
    | none => exact Nat.one_pos
    | some p =>
      obtain ⟨n, d⟩ := p
      exact tot_pos e
theorem dprod_dvd {a b : Nat} : ∀ {h : List Series} {s : Series} {n d : Nat}, s ∈ h → tot s a b = some (n, d) → d ∣ dprod a b h
  | [], s, n, d, hs, _ => by cases hs
  | t :: h, s, n, d, hs, e => by
    unfold dprod
    rcases List.mem_cons.mp hs with z | z
    · rw [← z, e]
      exact Nat.dvd_mul_right _ _
    · exact Nat.dvd_mul_left_of_dvd (dprod_dvd z e) _
/-- one total's upper number over that -/
def upN (h : List Series) (a b s : Nat) : Nat := match tot ((h[s]?).getD []) a b with
  | some p => p.1 * (dprod a b h / p.2)
  | none => 0
theorem upN_cross {h : List Series} {a b s n d : Nat} (hs : s < h.length) (e : tot ((h[s]?).getD []) a b = some (n, d)) : upN h a b s * d = n * dprod a b h := by
  have hm : (h[s]?).getD [] ∈ h := by
    rw [List.getElem?_eq_getElem hs]
    exact List.getElem_mem hs
  unfold upN
  rw [e]
  show n * (dprod a b h / d) * d = _
  rw [Nat.mul_assoc, Nat.div_mul_cancel (dprod_dvd hm e)]
theorem upN_frac {h : List Series} {a b s n d : Nat} (hs : s < h.length) (e : tot ((h[s]?).getD []) a b = some (n, d)) (c : Nat) : frac (c * n) d = frac (c * upN h a b s) (dprod a b h) := by
  refine frac_same (tot_pos e) (dprod_pos h) ?_
  rw [Nat.mul_assoc, Nat.mul_assoc, upN_cross hs e]
/-- one step of sum_of -/
theorem sum_step {h : List Series} {a b s n d U L : Nat} {l : List Nat} (hL : 0 < L) (hs : s < h.length) (e : tot ((h[s]?).getD []) a b = some (n, d)) (hU : frac U L = frac (csum (upN h a b) l s) (dprod a b h)) :
    frac (U * d + l.count s * n * L) (L * d) = frac (csum (upN h a b) l (s + 1)) (dprod a b h) := by
  have hD := dprod_pos (a := a) (b := b) h
  rw [← frac_add hL (tot_pos e), hU, upN_frac hs e, frac_add hD hD, ← Nat.add_mul, Nat.mul_comm _ (dprod a b h), frac_scale hD]
  rfl
theorem sum_all {h : List Series} {a b : Nat} {l : List Nat} (hl : ∀ x ∈ l, x < h.length) (hk : ∀ x ∈ l, tot ((h[x]?).getD []) a b ≠ none) :
    Sq37.every (l.map fun s => Sq37.total ((h[s]?).getD []) a b) = some (frac (csum (upN h a b) l h.length) (dprod a b h)) := by
  rw [← csum_sum _ _ _ hl, ← every_same (dprod_pos h)]
  refine congrArg Sq37.every (List.map_congr_left fun s hs => ?_)
  rw [total_tot]
  cases e : tot ((h[s]?).getD []) a b with
  | none => exact absurd e (hk s hs)
  | some p =>
    obtain ⟨n, d⟩ := p
    have q := upN_frac (hl s hs) e 1
    rw [Nat.one_mul, Nat.one_mul] at q
    exact congrArg some q
theorem every_lacks : ∀ {l : List (Option Frac)}, none ∈ l → Sq37.every l = none
  | [], h => by cases h
  | x :: l, h => by
    show (match x, Sq37.every l with
      | some a, some b => some (a.add b)
      | _, _ => none) = none
    cases x with
    | none => rfl
    | some a =>
      have h' : none ∈ l := by
        rcases List.mem_cons.mp h with z | z
        · cases z
        · exact z
      rw [every_lacks h']

/-! top -/
theorem rank_at {x : Nat × Frac} : ∀ {l : List (Nat × Frac)} {k : Nat}, k ≤ l.length → (∀ j y, j < k → l[j]? = some y → x.2.le y.2 = true) → (∀ y, l[k]? = some y → x.2.le y.2 = false) → Sq37.rank x l = l.take k ++ [x] ++ l.drop k
  | [], k, hk, _, _ => by
    have : k = 0 := Nat.le_zero.mp hk
    subst this
    rfl
  | y :: l, 0, _, _, h2 => by
    unfold Sq37.rank
    rw [if_neg (by rw [h2 y rfl]; decide)]
    rfl
  | y :: l, k + 1, hk, h1, h2 => by
    unfold Sq37.rank
    rw [if_pos (h1 0 y (Nat.succ_pos _) rfl), rank_at (k := k) (Nat.le_of_succ_le_succ hk) (fun j z hj hz => h1 (j + 1) z (Nat.succ_lt_succ hj) hz) (fun z hz => h2 z hz)]
    rfl
/-- the known ones of the first m -/
def known (h : List Series) (a b m : Nat) : List (Nat × Frac) := (List.range m).filterMap fun s => (Sq37.total ((h[s]?).getD []) a b).map fun f => (s, f)
theorem known_succ (h : List Series) (a b m : Nat) : known h a b (m + 1) = known h a b m ++ (match Sq37.total ((h[m]?).getD []) a b with | none => [] | some f => [(m, f)]) := by
  unfold known
  rw [List.range_succ, List.filterMap_append]
  congr 1
  cases e : Sq37.total ((h[m]?).getD []) a b with
  | none =>
    rw [List.filterMap_cons_none (by rw [e]; rfl)]
    rfl
  | some f =>
    rw [List.filterMap_cons_some (b := (m, f)) (by rw [e]; rfl)]
    rfl
def ranks (h : List Series) (a b m : Nat) : List (Nat × Frac) := (known h a b m).foldl (fun (r : List (Nat × Frac)) x => Sq37.rank x r) []
theorem ranks_none {h : List Series} {a b m : Nat} (e : tot ((h[m]?).getD []) a b = none) : ranks h a b (m + 1) = ranks h a b m := by
  unfold ranks
  rw [known_succ, total_tot, e]
  show List.foldl _ _ (known h a b m ++ []) = _
  rw [List.append_nil]
theorem ranks_some {h : List Series} {a b m n d : Nat} (e : tot ((h[m]?).getD []) a b = some (n, d)) : ranks h a b (m + 1) = Sq37.rank (m, frac n d) (ranks h a b m) := by
  unfold ranks
  rw [known_succ, total_tot, e]
  show List.foldl _ _ (known h a b m ++ [(m, frac n d)]) = _
  rw [List.foldl_append]
  rfl
end Ac

set_option Elab.async false
set_option maxRecDepth 100000
/-! The specification by calls: what is asked is a list of calls written flat, what is due their answers one behind another -/
namespace Ac
open Sq37 (Call House Out)
/-- a call as it is written -/
def flat : Call → List Int
  | .begin_ n => [1, (n : Int)]
  | .sample s t v => [2, (s : Int), (t : Int), (v : Int)]
  | .out s t => [3, (s : Int), (t : Int)]
  | .total s a b => [4, (s : Int), (a : Int), (b : Int)]
  | .rate s a b => [5, (s : Int), (a : Int), (b : Int)]
  | .anew s a b => [6, (s : Int), (a : Int), (b : Int)]
  | .gaps s g => [7, (s : Int), (g : Int)]
  | .most s w => [8, (s : Int), (w : Int)]
  | .when s a x => [9, (s : Int), (a : Int), (x : Int)]
  | .sum a b l => 10 :: (a : Int) :: (b : Int) :: (l.length : Int) :: l.map fun n : Nat => (n : Int)
  | .top n a b => [11, (n : Int), (a : Int), (b : Int)]
  | .list s => [12, (s : Int)]
/-- one answer -/
def ansOf (o : Out) : List Int := o.value :: o.out
/-- the answers, call by call -/
def play : House → List Call → List (List Int)
  | _, [] => []
  | h, c :: cs => ansOf (h.step c).2 :: play (h.step c).1 cs
/-- all numbers of a call are below 2 ^ 64, and its list has at most 1024 -/
def small : Call → Prop
  | .begin_ n => n < 2 ^ 64
  | .sample s t v => s < 2 ^ 64 ∧ t < 2 ^ 64 ∧ v < 2 ^ 64
  | .out s t => s < 2 ^ 64 ∧ t < 2 ^ 64
  | .total s a b => s < 2 ^ 64 ∧ a < 2 ^ 64 ∧ b < 2 ^ 64
  | .rate s a b => s < 2 ^ 64 ∧ a < 2 ^ 64 ∧ b < 2 ^ 64
  | .anew s a b => s < 2 ^ 64 ∧ a < 2 ^ 64 ∧ b < 2 ^ 64
  | .gaps s g => s < 2 ^ 64 ∧ g < 2 ^ 64
  | .most s w => s < 2 ^ 64 ∧ w < 2 ^ 64
  | .when s a x => s < 2 ^ 64 ∧ a < 2 ^ 64 ∧ x < 2 ^ 64
  | .sum a b l => a < 2 ^ 64 ∧ b < 2 ^ 64 ∧ l.length ≤ 1024 ∧ ∀ n ∈ l, n < 2 ^ 64
  | .top n a b => n < 2 ^ 64 ∧ a < 2 ^ 64 ∧ b < 2 ^ 64
  | .list s => s < 2 ^ 64
theorem len1 {α : Type} : ∀ {l : List α}, l.length = 1 → ∃ a, l = [a]
  | [a], _ => ⟨a, rfl⟩
theorem len2 {α : Type} : ∀ {l : List α}, l.length = 2 → ∃ a b, l = [a, b]
  | [a, b], _ => ⟨a, b, rfl⟩
theorem len3 {α : Type} : ∀ {l : List α}, l.length = 3 → ∃ a b c, l = [a, b, c]
  | [a, b, c], _ => ⟨a, b, c, rfl⟩
theorem within_nat {z : Int} (h : PyInside.within 0 18446744073709551615 z = true) : ∃ n : Nat, z = (n : Int) ∧ n < 2 ^ 64 := by
  unfold PyInside.within at h
  rw [Bool.and_eq_true, decide_eq_true_eq, decide_eq_true_eq] at h
  exact ⟨z.toNat, by omega, by omega⟩
theorem all_nat : ∀ {r : List Int}, r.all (PyInside.within 0 18446744073709551615) = true → ∃ l : List Nat, r = l.map (fun n : Nat => (n : Int)) ∧ ∀ n ∈ l, n < 2 ^ 64
  | [], _ => ⟨[], rfl, fun _ h => by cases h⟩
  | z :: r, h => by
    rw [List.all_cons, Bool.and_eq_true] at h
    obtain ⟨n, rfl, hn⟩ := within_nat h.1
    obtain ⟨l, rfl, hl⟩ := all_nat h.2
    refine ⟨n :: l, rfl, fun m hm => ?_⟩
    rcases List.mem_cons.mp hm with e | e
    · rw [e]; exact hn
    · exact hl m e
theorem toNat_map (l : List Nat) : (l.map fun n : Nat => (n : Int)).map Int.toNat = l := by
  rw [List.map_map]
  conv => rhs; rw [← List.map_id l]
  rfl
/-- one call as it is read -/
theorem call_of {c : List (List Int)} (h : PyFlat.okCall PySq37.shape c) (hb : PyInside.call PySq37.bound c = true) : ∃ q : Call, PyFlat.put1 c = flat q ∧ Sq37Neutral.callOf (PySq37.whole c) = some q ∧ small q := by
  obtain ⟨p, a, xs, rfl, hs⟩ := h
  have hb' : (PyInside.each (PySq37.bound p).1 a && PyInside.lists (PySq37.bound p).2 xs) = true := hb
  rw [Bool.and_eq_true] at hb'
  obtain ⟨b1, b2⟩ := hb'
  unfold PySq37.shape at hs
  have e0 : ∀ {n k : Nat}, some (n, k) = some (a.length, xs.length) → a.length = n ∧ xs.length = k := fun e => by
    have := Prod.mk.inj (Option.some.inj e)
    exact ⟨this.1.symm, this.2.symm⟩
  by_cases p1 : p = 1
  · subst p1
    obtain ⟨h1, h2⟩ := e0 hs
    obtain ⟨x, rfl⟩ := len1 h1
    have := List.length_eq_zero_iff.mp h2
    subst this
    have b1' : (PyInside.within 0 18446744073709551615 x && true) = true := b1
    rw [Bool.and_true] at b1'
    obtain ⟨n, rfl, hn⟩ := within_nat b1'
    exact ⟨.begin_ n, rfl, rfl, hn⟩
  rw [if_neg p1] at hs
  have three : ∀ {q : Int}, PyInside.each [(0, 18446744073709551615), (0, 18446744073709551615), (0, 18446744073709551615)] a = true → a.length = 3 ∧ xs.length = 0 → ∃ n m k : Nat, a = [(n : Int), (m : Int), (k : Int)] ∧ xs = [] ∧ n < 2 ^ 64 ∧ m < 2 ^ 64 ∧ k < 2 ^ 64 := fun e ⟨h1, h2⟩ => by
    obtain ⟨x, y, z, rfl⟩ := len3 h1
    have := List.length_eq_zero_iff.mp h2
    subst this
    have e' : (PyInside.within 0 18446744073709551615 x && (PyInside.within 0 18446744073709551615 y && (PyInside.within 0 18446744073709551615 z && true))) = true := e
    rw [Bool.and_true, Bool.and_eq_true, Bool.and_eq_true] at e'
    obtain ⟨n, rfl, hn⟩ := within_nat e'.1
    obtain ⟨m, rfl, hm⟩ := within_nat e'.2.1
    obtain ⟨k, rfl, hk⟩ := within_nat e'.2.2
    exact ⟨n, m, k, rfl, rfl, hn, hm, hk⟩
  have two : PyInside.each [(0, 18446744073709551615), (0, 18446744073709551615)] a = true → a.length = 2 → ∃ n m : Nat, a = [(n : Int), (m : Int)] ∧ n < 2 ^ 64 ∧ m < 2 ^ 64 := fun e h1 => by
    obtain ⟨x, y, rfl⟩ := len2 h1
    have e' : (PyInside.within 0 18446744073709551615 x && (PyInside.within 0 18446744073709551615 y && true)) = true := e
    rw [Bool.and_true, Bool.and_eq_true] at e'
    obtain ⟨n, rfl, hn⟩ := within_nat e'.1
    obtain ⟨m, rfl, hm⟩ := within_nat e'.2
    exact ⟨n, m, rfl, hn, hm⟩
  by_cases p2 : p = 2
  · subst p2
    obtain ⟨n, m, k, rfl, rfl, h⟩ := three (q := 2) b1 (e0 hs)
    exact ⟨.sample n m k, rfl, rfl, h⟩
  rw [if_neg p2] at hs
  by_cases p3 : p = 3
  · subst p3
    obtain ⟨h1, h2⟩ := e0 hs
    obtain ⟨n, m, rfl, h⟩ := two b1 h1
    have := List.length_eq_zero_iff.mp h2
    subst this
    exact ⟨.out n m, rfl, rfl, h⟩
  rw [if_neg p3] at hs
  by_cases p4 : p = 4
  · subst p4
    obtain ⟨n, m, k, rfl, rfl, h⟩ := three (q := 2) b1 (e0 hs)
    exact ⟨.total n m k, rfl, rfl, h⟩
  rw [if_neg p4] at hs
  by_cases p5 : p = 5
  · subst p5
    obtain ⟨n, m, k, rfl, rfl, h⟩ := three (q := 2) b1 (e0 hs)
    exact ⟨.rate n m k, rfl, rfl, h⟩
  rw [if_neg p5] at hs
  by_cases p6 : p = 6
  · subst p6
    obtain ⟨n, m, k, rfl, rfl, h⟩ := three (q := 2) b1 (e0 hs)
    exact ⟨.anew n m k, rfl, rfl, h⟩
  rw [if_neg p6] at hs
  by_cases p7 : p = 7
  · subst p7
    obtain ⟨h1, h2⟩ := e0 hs
    obtain ⟨n, m, rfl, h⟩ := two b1 h1
    have := List.length_eq_zero_iff.mp h2
    subst this
    exact ⟨.gaps n m, rfl, rfl, h⟩
  rw [if_neg p7] at hs
  by_cases p8 : p = 8
  · subst p8
    obtain ⟨h1, h2⟩ := e0 hs
    obtain ⟨n, m, rfl, h⟩ := two b1 h1
    have := List.length_eq_zero_iff.mp h2
    subst this
    exact ⟨.most n m, rfl, rfl, h⟩
  rw [if_neg p8] at hs
  by_cases p9 : p = 9
  · subst p9
    obtain ⟨n, m, k, rfl, rfl, h⟩ := three (q := 2) b1 (e0 hs)
    exact ⟨.when n m k, rfl, rfl, h⟩
  rw [if_neg p9] at hs
  by_cases p10 : p = 10
  · subst p10
    obtain ⟨h1, h2⟩ := e0 hs
    obtain ⟨n, m, rfl, hn, hm⟩ := two b1 h1
    obtain ⟨r, rfl⟩ := len1 h2
    have b2' : (decide (0 ≤ r.length) && decide (r.length ≤ 1024) && r.all (PyInside.within 0 18446744073709551615) && true) = true := b2
    rw [Bool.and_true, Bool.and_eq_true, Bool.and_eq_true] at b2'
    obtain ⟨⟨_, b3⟩, b4⟩ := b2'
    obtain ⟨l, rfl, hl⟩ := all_nat b4
    rw [decide_eq_true_eq, List.length_map] at b3
    refine ⟨.sum n m l, ?_, ?_, hn, hm, b3, hl⟩
    · show [10, (n : Int), (m : Int)] ++ ((((l.map fun n : Nat => (n : Int)).length : Nat) : Int) :: (l.map fun n : Nat => (n : Int)) ++ []) = _
      rw [List.append_nil, List.length_map]
      rfl
    · show some (Call.sum (n : Int).toNat (m : Int).toNat ((l.map fun n : Nat => (n : Int)).map fun z : Int => z.toNat)) = _
      rw [show ((l.map fun n : Nat => (n : Int)).map fun z : Int => z.toNat) = l from toNat_map l]
      rfl
  rw [if_neg p10] at hs
  by_cases p11 : p = 11
  · subst p11
    obtain ⟨n, m, k, rfl, rfl, h⟩ := three (q := 2) b1 (e0 hs)
    exact ⟨.top n m k, rfl, rfl, h⟩
  rw [if_neg p11] at hs
  by_cases p12 : p = 12
  · subst p12
    obtain ⟨h1, h2⟩ := e0 hs
    obtain ⟨x, rfl⟩ := len1 h1
    have := List.length_eq_zero_iff.mp h2
    subst this
    have b1' : (PyInside.within 0 18446744073709551615 x && true) = true := b1
    rw [Bool.and_true] at b1'
    obtain ⟨n, rfl, hn⟩ := within_nat b1'
    exact ⟨.list n, rfl, rfl, hn⟩
  rw [if_neg p12] at hs
  cases hs
theorem calls_of : ∀ {raw : List (List (List Int))}, (∀ c ∈ raw, PyFlat.okCall PySq37.shape c) → PyInside.calls PySq37.bound raw = true →
    ∃ cs : List Call, PyFlat.put raw = cs.flatMap flat ∧ cs.length = raw.length ∧ (∀ c ∈ cs, small c) ∧ ∀ h, PyFlat.played Sq37Neutral.step h (raw.map PySq37.whole) = play h cs ∧ Sq37Neutral.outs h (raw.map PySq37.whole) = (play h cs).flatten.length
  | [], _, _ => ⟨[], rfl, rfl, (fun _ h => by cases h), fun _ => ⟨rfl, rfl⟩⟩
  | c :: raw, h, hb => by
    have hb' : (PyInside.call PySq37.bound c && raw.all (PyInside.call PySq37.bound)) = true := hb
    rw [Bool.and_eq_true] at hb'
    obtain ⟨q, e1, e2, e3⟩ := call_of (h c (List.mem_cons_self ..)) hb'.1
    obtain ⟨cs, f1, f2, f3, f4⟩ := calls_of (fun d hd => h d (List.mem_cons_of_mem _ hd)) hb'.2
    have est : ∀ s, Sq37Neutral.step s (PySq37.whole c) = ((s.step q).1, ansOf (s.step q).2) := fun s => by
      unfold Sq37Neutral.step
      rw [e2]
      rfl
    refine ⟨q :: cs, ?_, by rw [List.length_cons, List.length_cons, f2], fun d hd => ?_, fun s => ⟨?_, ?_⟩⟩
    · show PyFlat.put1 c ++ PyFlat.put raw = flat q ++ cs.flatMap flat
      rw [e1, f1]
    · rcases List.mem_cons.mp hd with e | e
      · rw [e]; exact e3
      · exact f3 d e
    · show (Sq37Neutral.step s (PySq37.whole c)).2 :: PyFlat.played Sq37Neutral.step (Sq37Neutral.step s (PySq37.whole c)).1 (raw.map PySq37.whole) = ansOf (s.step q).2 :: play (s.step q).1 cs
      rw [est, (f4 _).1]
    · show (Sq37Neutral.step s (PySq37.whole c)).2.length + Sq37Neutral.outs (Sq37Neutral.step s (PySq37.whole c)).1 (raw.map PySq37.whole) = (ansOf (s.step q).2 :: play (s.step q).1 cs).flatten.length
      rw [est, (f4 _).2, List.flatten_cons, List.length_append]
/-- **what is asked, what is due** -/
theorem asked_calls {l : List Int} (h : PySq37.answers_asked l = true) : ∃ cs : List Call, l = cs.flatMap flat ∧ cs.length ≤ 60 ∧ (∀ c ∈ cs, small c) ∧ PySq37.answers l = PyFlat.told (play Sq37.fresh cs) ∧ (play Sq37.fresh cs).flatten.length < 1000000 := by
  unfold PySq37.answers_asked at h
  cases e : PyFlat.calls PySq37.shape l.length l with
  | none => rw [e] at h; cases h
  | some raw =>
    rw [e] at h
    have h' : (!raw.isEmpty && PyFlat.atMost 60 raw && PyInside.calls PySq37.bound raw && Sq37Neutral.asked (raw.map PySq37.whole) && PyFlat.short 10000000 (PySq37.answers l)) = true := h
    rw [Bool.and_eq_true, Bool.and_eq_true, Bool.and_eq_true, Bool.and_eq_true] at h'
    obtain ⟨⟨⟨⟨_, a2⟩, a3⟩, a4⟩, _⟩ := h'
    obtain ⟨e1, ok⟩ := PyFlat.put_calls _ _ _ e
    obtain ⟨cs, f1, f2, f3, f4⟩ := calls_of ok a3
    have a2' : raw.length ≤ 60 := of_decide_eq_true a2
    unfold Sq37Neutral.asked at a4
    rw [Bool.and_eq_true, Bool.and_eq_true, Bool.and_eq_true] at a4
    have a5 := of_decide_eq_true a4.2.2.2
    refine ⟨cs, e1.trans f1, by omega, f3, ?_, ?_⟩
    · unfold PySq37.answers PySq37.calls
      rw [e]
      show PyFlat.told (PyFlat.played Sq37Neutral.step Sq37Neutral.start (raw.map PySq37.whole)) = _
      rw [(f4 _).1]
      rfl
    · rw [(f4 _).2] at a5
      exact a5
end Ac

set_option Elab.async false
set_option linter.all false
set_option maxRecDepth 100000
set_option maxHeartbeats 2000000
/-! R1: sorted(d.items()) of a dict of ints -/
namespace Ac
open PySem PySem.Spec PyProof.Rows L2

/-- an entry of a dict of ints -/
abbrev entK (q : Int × Int) : L2.Key × V := (Sum.inl q.1, V.int q.2)
section
variable {X : Cx}
theorem dk_raw {H : Hp} {h : Heap} {a : Addr} {kvs : List (L2.Key × V)} (hok : HOk X.prog X.w H h) (ha : H a = some (.dK kvs)) :
    ∃ vs es ep, kvs.length ≤ sizeLine ∧ (a == sysModules) = false ∧ KV kvs vs ∧ DT.Raw h a es ep ∧ Pairs (mixKind X.prog X.w) es.toList vs := by
  obtain ⟨z, hd, vs, kv, o, es, ep, ho, hx, hdat, _, hp, _⟩ := hok a _ ha
  exact ⟨vs, es, ep, z, hd, kv, ⟨o, ho, hx, hdat⟩, hp⟩
def rItemsK : V → List V → Hp → VK → Prop := fun x xs H Q => ∃ (a : Addr) (kvs : List (L2.Key × V)), x = .ref a ∧ xs = [] ∧ H a = some (.dK kvs) ∧ ∀ p, H p = none → Q (.ref p) (upd H p (L2.DX.itemsO p a))
theorem mt_itemsK : MtR X "dict.items" rItemsK := by
  intro pins s σ H x xs v us Q I rx rxs h
  obtain ⟨a, kvs, rfl, rfl, ha, q⟩ := h
  cases rx
  cases rxs
  obtain ⟨vs, es, ep, z, hd, kv, hr, hp⟩ := dk_raw I.hok ha
  refine DT.callItems (es := es) (ep := ep) hd hr ?_
  have hf : H s.heap.objs.size = none := I.hok.fresh (Nat.le_refl _)
  exact ⟨.ref s.heap.objs.size, upd H s.heap.objs.size (L2.DX.itemsO s.heap.objs.size a), I.laid (t' := s.toks) (fun b u e => Heap.get?_push_of_some _ e) (Nat.le_refl _) (L2.DX.itemsO_ok (Heap.get?_push_size _ rfl)), rfl, q _ hf⟩
/-- the pair at an address, by the lists -/
def pickP (as : List Addr) (ps : List (Int × Int)) (v : Value) : Int × Int := match v with
  | .ref b => ((as.zip ps).lookup b).getD (0, 0)
  | _ => (0, 0)
theorem pickP_at : ∀ {as : List Addr} {ps : List (Int × Int)} {j : Nat} {b : Addr} {q : Int × Int}, as.Nodup → as[j]? = some b → ps[j]? = some q → pickP as ps (.ref b) = q
  | [], _, j, b, q, _, h, _ => by simp at h
  | a :: as, [], j, b, q, _, _, h => by simp at h
  | a :: as, p :: ps, 0, b, q, hn, h1, h2 => by
    have e1 : a = b := Option.some.inj h1
    have e2 : p = q := Option.some.inj h2
    subst e1 e2
    simp [pickP, List.lookup]
  | a :: as, p :: ps, j + 1, b, q, hn, h1, h2 => by
    have hn' := List.nodup_cons.mp hn
    have h1' : as[j]? = some b := h1
    have h2' : ps[j]? = some q := h2
    have ne : b ≠ a := fun z => hn'.1 (by rw [← z]; exact List.mem_of_getElem? h1')
    have ih := pickP_at hn'.2 h1' h2'
    have e : (b == a) = false := by simp [ne]
    show ((List.lookup b ((a, p) :: as.zip ps))).getD (0, 0) = q
    rw [List.lookup_cons, e]
    exact ih
def rSortItI : List V → Hp → VK → Prop := fun vs H Q => ∃ (p a : Addr) (ps : List (Int × Int)), vs = [.ref p] ∧ H p = some (L2.DX.itemsO p a) ∧ H a = some (.dK (ps.map entK)) ∧
  ∀ (H' : Hp) (l : Addr) (zs : List (Addr × Int × Int)), (∀ b o, H b = some o → H' b = some o) → (zs.map (·.2)).Perm ps → (zs.map (·.2)).Pairwise (fun x y => SrtO.lexB y x = false) → H l = none → H' l = some (.lst (zs.map fun z => V.ref z.1)) →
    (∀ z ∈ zs, H z.1 = none ∧ H' z.1 = some (.tup [.int z.2.1, .int z.2.2])) → Q (.ref l) H'
theorem pairs_get {prog : Program} {w : World} : ∀ {es : List DictEntry} {vs : List (L2.Key × Value)} , Pairs (mixKind prog w) es vs → ∀ {j : Nat} {e : DictEntry}, es[j]? = some e → ∃ q, vs[j]? = some q ∧ (mixKind prog w).is q.1 e.key = true ∧ e.val = q.2 := by
  intro es vs hp j e he
  have hlen := hp.length
  obtain ⟨hj, ej⟩ := List.getElem?_eq_some_iff.mp he
  have hj2 : j < vs.length := by omega
  have hx : vs[j]? = some (vs[j].1, vs[j].2) := List.getElem?_eq_getElem hj2
  obtain ⟨hk, hv⟩ := hp.get? he hx
  exact ⟨vs[j], hx, hk, hv⟩
theorem cr_sortedItI (hc : X.calm = true) : CallR X (.builtin "sorted") rSortItI := by
  intro pins s σ H xs us Q I r h
  obtain ⟨p, a, ps, rfl, hp, ha, q⟩ := h
  obtain rfl := Vals.ref1 r
  have view : s.heap.IsItemsView p a := (show ObjOk X.prog X.w H s.heap p (L2.DX.itemsO p a) from I.hok p _ hp).1
  obtain ⟨vs, es, ep, z, hd, kv, hraw, hpr⟩ := dk_raw I.hok ha
  have l1 : (ps.map entK).length = vs.length := Paired.length kv
  rw [List.length_map] at l1 z
  have l2 : es.size = vs.length := by rw [← hpr.length]; simp
  have hh : X.A.handled = none := I.ok.hd hc
  refine DT.sortedI (es := es) (ep := ep) hh view hraw (by omega) fun h' tk as hk hlt hl hG => ?_
  have lak : as.length = ps.length := by omega
  have nd : as.Nodup := List.Pairwise.imp (fun h => Nat.ne_of_lt h) hG.rise
  -- the pairs that were made
  have pr : ∀ (j : Nat) (b : Addr), as[j]? = some b → ∃ (e : Int × Int) (t u : Tok), ps[j]? = some e ∧ h'.get? b = some { cls := .type "tuple", data := .seq #[Value.int e.1 t, Value.int e.2 u] } := by
    intro j b hj
    obtain ⟨en, he, hg⟩ := hG.pairs j b hj
    have he' : es.toList[j]? = some en := by rw [Array.getElem?_toList]; exact he
    obtain ⟨qv, hq, hkey, hval⟩ := pairs_get hpr he'
    obtain ⟨pv, hpv, r1, r2⟩ : ∃ pv, (ps.map entK)[j]? = some pv ∧ pv.1 = qv.1 ∧ RelV pv.2 qv.2 := by
      have hj2 : j < (ps.map entK).length := by
        rw [List.length_map]
        have := (List.getElem?_eq_some_iff.mp hq).1
        omega
      have e1 : (ps.map entK)[j]? = some (ps.map entK)[j] := List.getElem?_eq_getElem hj2
      obtain ⟨y, hy, r1, r2⟩ := LiI.paired_get kv e1
      rw [hq] at hy
      cases hy
      exact ⟨_, e1, r1, r2⟩
    rw [List.getElem?_map] at hpv
    cases hpj : ps[j]? with
    | none => rw [hpj] at hpv; cases hpv
    | some e =>
      rw [hpj] at hpv
      have ee : entK e = pv := Option.some.inj hpv
      rw [← ee] at r1 r2
      obtain ⟨u, hu⟩ : ∃ u, qv.2 = Value.int e.2 u := r2
      have hk1 : keyIs qv.1 en.key = true := hkey
      rw [← r1] at hk1
      have hk2 : RelV (kV (Sum.inl e.1)) en.key := relV_key hk1
      obtain ⟨t, ht⟩ : ∃ t, en.key = Value.int e.1 t := hk2
      refine ⟨e, t, u, rfl, ?_⟩
      rw [hg, ht, hval, hu]
  have hob : (h'.push { cls := .type "list", data := .seq (as.map Value.ref).toArray }).get? h'.objs.size = some (seqObj "list" (as.map Value.ref).toArray 0) := Heap.get?_push_size _ rfl
  have kb : ∀ b o, s.heap.get? b = some o → (h'.push { cls := .type "list", data := .seq (as.map Value.ref).toArray }).get? b = some o := fun b o e => Heap.get?_push_of_some _ (hk b o e)
  have ne0 : ∀ b o, h'.get? b = some o → b ≠ h'.objs.size := fun b o e => Nat.ne_of_lt (Heap.lt_size e)
  generalize hh2 : h'.push { cls := .type "list", data := .seq (as.map Value.ref).toArray } = h2 at hob kb ⊢
  have ka : ∀ b o, h'.get? b = some o → h2.get? b = some o := fun b o e => by rw [← hh2]; exact Heap.get?_push_of_some _ e
  have isp : ∀ v ∈ as.map Value.ref, Srt.IsPair h2 v (pickP as ps v).1 (pickP as ps v).2 := by
    intro v hv
    obtain ⟨b, hb, rfl⟩ := List.mem_map.mp hv
    obtain ⟨j, hj⟩ := List.mem_iff_getElem?.mp hb
    obtain ⟨e, t, u, he, hg⟩ := pr j b hj
    rw [pickP_at nd hj he]
    exact ⟨b, _, t, u, 0, rfl, ka _ _ hg, rfl, rfl⟩
  refine wpAny_call_entry PyProof.Rows.slot_list_sort ⟨_, hob, rfl⟩ PyProof.Rows.entry_list_sort
    (SrtO.list_sort_ord (s := { s with heap := h2, toks := tk }) (SrtO.swo_lex (pickP as ps)) hob (by rw [List.length_map]; omega) (fun h2' => SrtO.pairs_sortableO (by omega) isp fun o e => ?_) fun out h1 h2' => ⟨.none, rfl, ?_⟩) (PyProof.Rows.args_list_sort _)
  · have e' : some o = some (seqObj "list" (as.map Value.ref).toArray 0) := e.symm.trans hob
    cases e'
    intro c
    exact absurd (Value.type.inj c) (by decide)
  · show EP X pins σ Q (.ref h'.objs.size) { s with heap := sortedHeap h2 h'.objs.size (as.map Value.ref) out.toArray, toks := tk }
    have m1 : (as.zip ps).map (fun z : Addr × Int × Int => Value.ref z.1) = as.map Value.ref := by
      rw [show (fun z : Addr × Int × Int => Value.ref z.1) = Value.ref ∘ Prod.fst from rfl, ← List.map_map, List.map_fst_zip (by omega)]
    obtain ⟨zs, pz, ez⟩ := L2.perm_lift (fun z : Addr × Int × Int => Value.ref z.1) h2'.perm (as.zip ps) m1
    have idx : ∀ z ∈ zs, ∃ j : Nat, as[j]? = some z.1 ∧ ps[j]? = some z.2 := by
      intro z' hz'
      obtain ⟨j, hj⟩ := List.mem_iff_getElem?.mp (pz.mem_iff.mp hz')
      exact ⟨j, List.getElem?_zip_eq_some.mp hj⟩
    have hperm : (zs.map (·.2)).Perm ps := by
      have e := pz.map (·.2)
      have m2 : (as.zip ps).map (·.2) = ps := List.map_snd_zip (by rw [lak]; exact Nat.le_refl _)
      rw [m2] at e
      exact e
    have hsort : (zs.map (·.2)).Pairwise (fun x y => SrtO.lexB y x = false) := by
      have o3 : out.Pairwise (fun x y => SrtO.lexB (pickP as ps y) (pickP as ps x) = false) := h1
      rw [← ez, List.pairwise_map] at o3
      rw [List.pairwise_map]
      refine List.Pairwise.imp_of_mem (fun {x y} hx hy h => ?_) o3
      obtain ⟨j, j1, j2⟩ := idx x hx
      obtain ⟨i, i1, i2⟩ := idx y hy
      rw [pickP_at nd i1 i2, pickP_at nd j1 j2] at h
      exact h
    have kF : ∀ b o, b ≠ h'.objs.size → h2.get? b = some o → (sortedHeap h2 h'.objs.size (as.map Value.ref) out.toArray).get? b = some o := fun b o hb e => (PyProof.Rows.sortedHeap_old hb (Heap.lt_size e)).trans e
    have kS : ∀ b o, s.heap.get? b = some o → (sortedHeap h2 h'.objs.size (as.map Value.ref) out.toArray).get? b = some o := fun b o e => kF b o (ne0 _ _ (hk b o e)) (kb b o e)
    obtain ⟨eF, heF⟩ := PyProof.Rows.sortedHeap_at (vs := as.map Value.ref) (out := out.toArray) hob
    have I1 : Inv X pins σ H { s with heap := sortedHeap h2 h'.objs.size (as.map Value.ref) out.toArray, toks := tk } := I.kept (t' := tk) kS
    have hn0 : H h'.objs.size = none := I.hok.fresh (Nat.le_of_lt hlt)
    have hlen : (zs.map fun z => V.ref z.1).length ≤ sizeLine := by
      have e := hperm.length_eq
      rw [List.length_map] at e
      rw [List.length_map]
      omega
    have rv : Vals (zs.map fun z => V.ref z.1) out := by
      rw [← ez]
      exact vals_maps (fun z : Addr × Int × Int => V.ref z.1) (fun z => Value.ref z.1) zs fun _ _ => rfl
    have I2 : Inv X pins σ (upd H h'.objs.size (.lst (zs.map fun z => V.ref z.1))) { s with heap := sortedHeap h2 h'.objs.size (as.map Value.ref) out.toArray, toks := tk } :=
      I1.take (h' := sortedHeap h2 h'.objs.size (as.map Value.ref) out.toArray) (t' := tk) (fun b ob _ e => e) (I.fpOk (Nat.le_of_lt hlt) hn0) ⟨hlen, out, eF, rv, heF⟩
    obtain ⟨H2, I3, g, qt⟩ := L2.DX.takeT (P := fun b vs => ∃ (j : Nat) (e : Int × Int), as[j]? = some b ∧ ps[j]? = some e ∧ vs = [.int e.1, .int e.2]) I as _ I2 nd fun b hb => by
      obtain ⟨j, hj⟩ := List.mem_iff_getElem?.mp hb
      obtain ⟨e, t, u, he, hg⟩ := pr j b hj
      have hbl : s.heap.objs.size ≤ b := Nat.le_of_lt (hG.above b hb)
      refine ⟨hbl, ?_, [.int e.1, .int e.2], ⟨j, e, hj, he, rfl⟩, fun H3 => ⟨(by rw [sizeLine_eq]; show 2 ≤ 16777216; omega), [Value.int e.1 t, Value.int e.2 u], .cons ⟨t, rfl⟩ (.cons ⟨u, rfl⟩ .nil), ⟨_, kF _ _ (ne0 _ _ hg) (ka _ _ hg), rfl, 0, rfl⟩⟩⟩
      rw [upd_ne (ne0 _ _ hg)]
      exact I.hok.fresh hbl
    have gr : ∀ b o, H b = some o → H2 b = some o := fun b o e => g b o (by rw [upd_ne (ne_of_none e hn0)]; exact e)
    refine ⟨.ref h'.objs.size, H2, I3, rfl, q H2 h'.objs.size zs gr hperm hsort hn0 (g _ _ upd_same) fun z' hz' => ?_⟩
    obtain ⟨i, i1, i2⟩ := idx z' hz'
    obtain ⟨vs', ⟨j, e, j1, j2, ev⟩, hH⟩ := qt z'.1 (List.mem_of_getElem? i1)
    have eij : i = j := (List.getElem?_inj (List.getElem?_eq_some_iff.mp i1).1 nd).mp (i1.trans j1.symm)
    subst eij
    have ee : e = z'.2 := Option.some.inj (j2.symm.trans i2)
    rw [ev, ee] at hH
    exact ⟨I.hok.fresh (Nat.le_of_lt (hG.above _ (List.mem_of_getElem? i1))), hH⟩
end
end Ac

set_option Elab.async false
set_option linter.all false
set_option maxRecDepth 100000
set_option maxHeartbeats 2000000
/-! R2: list(zip(xs, ys)) of two lists -/
namespace Ac
open PySem PySem.W PySem.Calls PyProof.Rows PyProof.V PySem.Spec
theorem zp_nolen : typeLookup (.type "zip") "__len__" = pure none := by rw [typeLookup_type, builtinLookup_eq_fast]; kernel_rfl
theorem zp_nohint : typeLookup (.type "zip") "__length_hint__" = pure none := by rw [typeLookup_type, builtinLookup_eq_fast]; kernel_rfl
/-- the zip's state while a list at S is filled from it -/
def ZSt (z TI TO i1 i2 l1 l2 S : Addr) (xs ys : Array Value) (i : Nat) (h : Heap) : Prop :=
  IsPair h TI (.ref i1) (.ref i2) ∧ h.IsListIter i1 l1 i ∧ h.IsListIter i2 l2 i ∧ h.IsList l1 xs ∧ h.IsList l2 ys ∧
  ((IsZip h z TI TO .none ∧ ∃ a b, IsPair h TO a b) ∨ ∃ T f oT, IsZipHeld h z TI TO T f ∧ h.get? T = some oT ∧ T ≠ z ∧ T ≠ i1 ∧ T ≠ i2 ∧ T ≠ S)
/-- S is none of the zip's own -/
structure ZOff (z TI TO i1 i2 l1 l2 S : Addr) : Prop where
  z : z ≠ S
  TI : TI ≠ S
  TO : TO ≠ S
  i1 : i1 ≠ S
  i2 : i2 ≠ S
  l1 : l1 ≠ S
  l2 : l2 ≠ S
theorem ZSt.keep {z TI TO i1 i2 l1 l2 S : Addr} {xs ys : Array Value} {i : Nat} {h h' : Heap} (x : ZSt z TI TO i1 i2 l1 l2 S xs ys i h) (o : ZOff z TI TO i1 i2 l1 l2 S) (hk : ∀ b u, b ≠ S → h.get? b = some u → h'.get? b = some u) : ZSt z TI TO i1 i2 l1 l2 S xs ys i h' := by
  obtain ⟨hTI, h1, h2, hl1, hl2, hz⟩ := x
  refine ⟨hk _ _ o.TI hTI, h1.at fun u e => hk _ u o.i1 e, h2.at fun u e => hk _ u o.i2 e, hl1.at fun u e => hk _ u o.l1 e, hl2.at fun u e => hk _ u o.l2 e, ?_⟩
  rcases hz with ⟨hz, a, b, hTO⟩ | ⟨T, f, oT, hz, hT, r1, r2, r3, r4⟩
  · exact .inl ⟨hk _ _ o.z hz, a, b, hk _ _ o.TO hTO⟩
  · exact .inr ⟨T, f, oT, hk _ _ o.z hz, hk _ _ r4 hT, r1, r2, r3, r4⟩
/-- the pairs that were made -/
structure ZG (xs ys : Array Value) (lo : Addr) (h : Heap) (as : List Addr) : Prop where
  rise : as.Pairwise (· < ·)
  above : ∀ a ∈ as, lo < a
  pairs : ∀ (j : Nat) (a : Addr), as[j]? = some a → ∃ x y, xs[j]? = some x ∧ ys[j]? = some y ∧ h.get? a = some { cls := .type "tuple", data := .seq #[x, y] }
theorem ZG.there {xs ys : Array Value} {lo : Addr} {h : Heap} {as : List Addr} (g : ZG xs ys lo h as) {a : Addr} (ha : a ∈ as) : a < h.objs.size := by
  obtain ⟨j, hj⟩ := List.mem_iff_getElem?.mp ha
  obtain ⟨_, _, _, _, e⟩ := g.pairs j a hj
  exact Heap.lt_size e
section
variable {prog : Program} {w : World} {A : Around} {E : Value → Shared → Prop} {s : Shared} {z TI TO i1 i2 l1 l2 S : Addr} {xs ys : Array Value}
theorem zp_item {i : Nat} {Q : Option Value → Shared → Prop} (D : ZipApart z TI TO i1 i2 l1 l2) (st : ZSt z TI TO i1 i2 l1 l2 S xs ys i s.heap) (hS : S < s.heap.objs.size) {x y : Value} (ex : xs[i]? = some x) (ey : ys[i]? = some y)
    (hQ : ∀ h', ZSt z TI TO i1 i2 l1 l2 S xs ys (i + 1) h' → h'.get? s.heap.objs.size = some { cls := .type "tuple", data := .seq #[x, y] } → h'.objs.size = s.heap.objs.size + 1 →
      (∀ c o, c ≠ z → c ≠ TO → c ≠ i1 → c ≠ i2 → s.heap.get? c = some o → h'.get? c = some o) → Q (some (.ref s.heap.objs.size)) { s with heap := h' }) :
    wpAny (model prog w) A (pyNext (.ref z)) Q E s := by
  obtain ⟨hTI, h1, h2, hl1, hl2, hz⟩ := st
  have lt : ∀ {c o}, s.heap.get? c = some o → s.heap.objs.size ≠ c := fun e => Nat.ne_of_gt (Heap.lt_size e)
  have n1 : s.heap.objs.size ≠ i1 := let ⟨_, e, _⟩ := h1; lt e
  have n2 : s.heap.objs.size ≠ i2 := let ⟨_, e, _⟩ := h2; lt e
  rcases hz with ⟨hz, a, b, hTO⟩ | ⟨T, f, oT, hz, hT, r1, r2, r3, r4⟩
  · refine wpAny_pyNext_zip_item D hz hTI hTO h1 h2 hl1 hl2 ex ey fun h' a1 a2 a3 a4 a5 a6 hk => ?_
    exact hQ h' ⟨hk _ _ D.TIz D.TITO D.TIi1 D.TIi2 hTI, a3, a4, hl1.at fun o e => hk _ o D.l1z D.l1TO D.l1i1 D.l1i2 e, hl2.at fun o e => hk _ o D.l2z D.l2TO D.l2i1 D.l2i2 e,
      .inr ⟨s.heap.objs.size, false, _, a1, a5, lt hz, n1, n2, Nat.ne_of_gt hS⟩⟩ a5 a6 hk
  · refine wpAny_pyNext_zip_item_held D hz hT hTI h1 h2 hl1 hl2 ex ey fun h' a1 a3 a4 a5 a6 hk => ?_
    exact hQ h' ⟨hk _ _ D.TIz D.TIi1 D.TIi2 hTI, a3, a4, hl1.at fun o e => hk _ o D.l1z D.l1i1 D.l1i2 e, hl2.at fun o e => hk _ o D.l2z D.l2i1 D.l2i2 e,
      .inr ⟨T, true, oT, a1, hk _ _ r1 r2 r3 hT, r1, r2, r3, r4⟩⟩ a5 a6 fun c o c1 _ c3 c4 e => hk c o c1 c3 c4 e
theorem zp_done {i : Nat} {Q : Option Value → Shared → Prop} (hh : A.handled = none) (D : ZipApart z TI TO i1 i2 l1 l2) (st : ZSt z TI TO i1 i2 l1 l2 S xs ys i s.heap) (hend : xs[i]? = none ∨ ys[i]? = none)
    (hQ : ∀ h', (∀ c o, c ≠ z → c ≠ TO → c ≠ i1 → c ≠ i2 → s.heap.get? c = some o → h'.get? c = some o) → Q none { s with heap := h' }) :
    wpAny (model prog w) A (pyNext (.ref z)) Q E s := by
  obtain ⟨hTI, h1, h2, hl1, hl2, hz⟩ := st
  rcases hz with ⟨hz, a, b, hTO⟩ | ⟨T, f, oT, hz, hT, r1, r2, r3, r4⟩
  · exact wpAny_pyNext_zip_end hh D hz hTI hTO h1 h2 hl1 hl2 hend fun h' hk => hQ h' hk
  · exact wpAny_pyNext_zip_end_held hh D hz hT hTI h1 h2 hl1 hl2 hend fun h' hk => hQ h' fun c o c1 _ c3 c4 e => hk c o c1 c3 c4 e
theorem zp_hint {Q : Bool → Shared → Prop} (hT : s.TypeIs (.ref z) "zip") (h : Q true s) : wpAny (model prog w) A (Builtin.List.listLengthHint (.ref z)) Q E s := by
  unfold Builtin.List.listLengthHint
  refine wpAny_bind (wpAny_specialOf hT zp_nolen ?_)
  show wpAny _ _ (specialOf (Value.ref z) (Str.ofString "__length_hint__") >>= _) _ _ _
  refine wpAny_bind (wpAny_specialOf hT zp_nohint ?_)
  exact wpAny_pure h
end
section
variable {prog : Program} {w : World} {A : Around} {s : Shared} {R : Result → Shared → Prop} {z TI TO i1 i2 l1 l2 : Addr} {xs ys : Array Value}
/-- what the zip itself holds -/
abbrev Own (z TO i1 i2 S : Addr) (b : Addr) : Prop := b ≠ S ∧ b ≠ z ∧ b ≠ TO ∧ b ≠ i1 ∧ b ≠ i2
theorem zp_loop {S : Addr} (hh : A.handled = none) (D : ZipApart z TI TO i1 i2 l1 l2) (off : ZOff z TI TO i1 i2 l1 l2 S) (low : z < S ∧ TO < S ∧ i1 < S ∧ i2 < S) (hn : min xs.size ys.size ≤ sizeLine) (res : Value) {h₁ : Heap}
    (hR : ∀ h' tk acc c as, (∀ b o, Own z TO i1 i2 S b → h₁.get? b = some o → h'.get? b = some o) → h'.get? S = some { cls := .type "list", dict := none, data := .seq acc c, slots := #[] } → as.length = min xs.size ys.size → ZG xs ys S h' as →
      acc.toList = as.map Value.ref → R (.ok (.ret res)) { s with heap := h', toks := tk }) :
    ∀ (k i : Nat) (h : Heap) (tk c : Nat) (acc : Array Value) (as : List Addr), min xs.size ys.size - i = k → i ≤ min xs.size ys.size → ZSt z TI TO i1 i2 l1 l2 S xs ys i h → (∀ b o, Own z TO i1 i2 S b → h₁.get? b = some o → h.get? b = some o) →
      h.get? S = some { cls := .type "list", dict := none, data := .seq acc c, slots := #[] } → acc.toList = as.map Value.ref → as.length = i → ZG xs ys S h as →
      codeAny (model prog w) A (.builtin "list.extend.loop" ⟨[.ref S, .ref z, res], []⟩) R { s with heap := h, toks := tk } := by
  have nb : ∀ a, S < a → Own z TO i1 i2 S a := fun a ha => ⟨Nat.ne_of_gt ha, Nat.ne_of_gt (Nat.lt_trans low.1 ha), Nat.ne_of_gt (Nat.lt_trans low.2.1 ha), Nat.ne_of_gt (Nat.lt_trans low.2.2.1 ha), Nat.ne_of_gt (Nat.lt_trans low.2.2.2 ha)⟩
  intro k
  induction k with
  | zero =>
    intro i h tk c acc as hk hi hst hkeep hS hacc hal hG
    have hin : i = min xs.size ys.size := by omega
    have hend : xs[i]? = none ∨ ys[i]? = none := by
      rcases Nat.le_total xs.size ys.size with h | h
      · exact .inl (Array.getElem?_eq_none (by rw [hin, Nat.min_eq_left h]; exact Nat.le_refl _))
      · exact .inr (Array.getElem?_eq_none (by rw [hin, Nat.min_eq_right h]; exact Nat.le_refl _))
    refine codeAny_builtin PySem.F.entry_extend_loop ?_
    rw [Around.under_plainId PySem.F.plain_extend_loop _]
    show wpAny _ A.in1 (pyNext (.ref z) >>= _) _ _ _
    refine wpAny_bind (zp_done (s := { s with heap := h, toks := tk }) (A := A.in1) hh D hst hend fun h' he => ?_)
    refine wpAny_pure (hR h' tk acc c as (fun b o ⟨b0, b1, b2, b3, b4⟩ e => he b o b1 b2 b3 b4 (hkeep b o ⟨b0, b1, b2, b3, b4⟩ e)) (he S _ (Ne.symm off.z) (Ne.symm off.TO) (Ne.symm off.i1) (Ne.symm off.i2) hS) (by omega) ⟨hG.rise, hG.above, fun j a hj => ?_⟩ hacc)
    obtain ⟨x, y, e1, e2, e3⟩ := hG.pairs j a hj
    obtain ⟨b0, b1, b2, b3, b4⟩ := nb a (hG.above a (List.mem_of_getElem? hj))
    exact ⟨x, y, e1, e2, he a _ b1 b2 b3 b4 e3⟩
  | succ k ih =>
    intro i h tk c acc as hk hi hst hkeep hS hacc hal hG
    have hlt : i < min xs.size ys.size := by omega
    have hix : i < xs.size := Nat.lt_of_lt_of_le hlt (Nat.min_le_left ..)
    have hiy : i < ys.size := Nat.lt_of_lt_of_le hlt (Nat.min_le_right ..)
    have ex := Array.getElem?_eq_getElem hix
    have ey := Array.getElem?_eq_getElem hiy
    have hsz : acc.size = i := by rw [← Array.length_toList, hacc, List.length_map, hal]
    have hSl : S < h.objs.size := Heap.lt_size hS
    refine codeAny_builtin PySem.F.entry_extend_loop ?_
    rw [Around.under_plainId PySem.F.plain_extend_loop _]
    show wpAny _ A.in1 (pyNext (.ref z) >>= _) _ _ _
    refine wpAny_bind (zp_item (s := { s with heap := h, toks := tk }) (S := S) D hst hSl ex ey fun h' hst' ht hz hkp => ?_)
    dsimp only at ht hz hkp ⊢
    have hS' := hkp S _ (Ne.symm off.z) (Ne.symm off.TO) (Ne.symm off.i1) (Ne.symm off.i2) hS
    have up : ∀ b o, b ≠ S → h'.get? b = some o → (h'.update S (Obj.mapSeq (·.push (Value.ref h.objs.size)))).get? b = some o := fun b o hb e => (Heap.get?_update_other _ _ (Ne.symm hb)).trans e
    show wpAny _ A.in1 (updateSeq S (·.push (Value.ref h.objs.size)) >>= _) _ _ _
    refine wpAny_bind ?_
    refine wpAny_updateSeq hS' rfl (wpAny_pure ⟨plainId_quiet PySem.F.plain_extend_loop _, ih (i + 1) _ tk _ (acc.push (Value.ref h.objs.size)) (as ++ [h.objs.size]) (by omega) hlt (hst'.keep off up)
      (fun b o ⟨b0, b1, b2, b3, b4⟩ e => up b o b0 (hkp b o b1 b2 b3 b4 (hkeep b o ⟨b0, b1, b2, b3, b4⟩ e))) (Heap.get?_update_self _ hS' rfl) (by rw [Array.toList_push, hacc, List.map_append]; rfl) (by rw [List.length_append, hal]; rfl) ⟨?_, ?_, ?_⟩⟩) (by rw [hsz]; omega) (by show (acc.push (Value.ref h.objs.size)).size ≤ sizeLine + 1; rw [Array.size_push, hsz]; omega)
    · refine List.pairwise_append.mpr ⟨hG.rise, List.pairwise_singleton _ _, fun a ha b hb => ?_⟩
      rw [List.mem_singleton.mp hb]
      exact hG.there ha
    · intro a ha
      rcases List.mem_append.mp ha with ha | ha
      · exact hG.above a ha
      · rw [List.mem_singleton.mp ha]; exact hSl
    · intro j b hj
      rcases Nat.lt_trichotomy j as.length with q1 | q1 | q1
      · rw [List.getElem?_append_left q1] at hj
        obtain ⟨x', y', e1, e2, e3⟩ := hG.pairs j b hj
        obtain ⟨b0, b1, b2, b3, b4⟩ := nb b (hG.above b (List.mem_of_getElem? hj))
        exact ⟨x', y', e1, e2, up b _ b0 (hkp b _ b1 b2 b3 b4 e3)⟩
      · subst q1
        have hb : h.objs.size = b := by simpa using hj
        subst hb
        exact ⟨_, _, by rw [hal]; exact ex, by rw [hal]; exact ey, up _ _ (Nat.ne_of_gt hSl) ht⟩
      · have hnone : (as ++ [h.objs.size])[j]? = none := List.getElem?_eq_none (by rw [List.length_append, List.length_singleton]; omega)
        rw [hnone] at hj; cases hj
end
section
variable {prog : Program} {w : World} {A : Around} {E : Value → Shared → Prop} {s : Shared} {z TI TO i1 i2 l1 l2 : Addr} {xs ys : Array Value}
theorem zp_extend {R : Result → Shared → Prop} (hh : A.handled = none) (D : ZipApart z TI TO i1 i2 l1 l2) {S : Addr} (off : ZOff z TI TO i1 i2 l1 l2 S) (low : z < S ∧ TO < S ∧ i1 < S ∧ i2 < S) (hst : ZSt z TI TO i1 i2 l1 l2 S xs ys 0 s.heap) (hz : IsZip s.heap z TI TO .none) (res : Value) (c₀ : Nat)
    (hS : s.heap.get? S = some { cls := .type "list", data := .seq #[] c₀ })
    (hR : ∀ h' tk acc c as, (∀ b o, Own z TO i1 i2 S b → s.heap.get? b = some o → h'.get? b = some o) → h'.get? S = some { cls := .type "list", dict := none, data := .seq acc c, slots := #[] } → as.length = min xs.size ys.size → ZG xs ys S h' as →
      acc.toList = as.map Value.ref → R (.ok (.ret res)) { s with heap := h', toks := tk }) (hn : min xs.size ys.size ≤ sizeLine) :
    wpAny (model prog w) A.in1 (Builtin.List.listExtendWith (.ref S) (.ref z) res)
      (fun fin s' => match fin with | .done f => R (.ok f) s' | .again c' => c'.quiet = true ∧ codeAny (model prog w) A c' R s') (fun e s' => R (.error e) s') s := by
  have hT : s.TypeIs (.ref z) "zip" := ⟨_, hz, rfl⟩
  unfold Builtin.List.listExtendWith
  refine wpAny_bind (wpAny_typeOf (T := "zip") hT ?_)
  have h1 : Builtin.List.listSameRef (.ref S) (.ref z) = false := by simp [Builtin.List.listSameRef, Ne.symm off.z]
  have h2 : (Value.type "zip" == Value.type "list") = false := by decide
  have h3 : (Value.type "zip" == Value.type "tuple") = false := by decide
  simp only [h1, h2, h3, Bool.or_false, Bool.false_eq_true, if_false]
  refine wpAny_bind (wpAny_pyIter_zip hz ?_)
  refine wpAny_bind (wpAny_holding (zp_hint hT ?_))
  try dsimp only
  refine wpAny_ite_split (fun _ => ?_) (fun hab => absurd rfl hab)
  refine wpAny_bind (wpAny_rule ?_)
  refine wpAny_bind ?_
  show wpAny _ _ (updateSeq S (·.push .none) >>= fun _ => updateSeq S (·.pop)) _ _ _
  refine wpAny_bind (wpAny_updateSeq hS rfl ?_)
  have hS₂ := Heap.get?_update_self (Obj.mapSeq (·.push Value.none)) hS rfl
  refine wpAny_updateSeq (hz := by seq_fits) hS₂ rfl ?_
  have hS₃ := Heap.get?_update_self (Obj.mapSeq (·.pop)) hS₂ rfl
  have oth : ∀ b o, b ≠ S → s.heap.get? b = some o → ((s.heap.update S (Obj.mapSeq (·.push Value.none))).update S (Obj.mapSeq (·.pop))).get? b = some o :=
    fun b o hb e => (Heap.get?_update_other _ _ (Ne.symm hb)).trans ((Heap.get?_update_other _ _ (Ne.symm hb)).trans e)
  refine wpAny_pure ⟨plainId_quiet PySem.F.plain_extend_loop _, ?_⟩
  exact zp_loop (s := s) (h₁ := s.heap) hh D off low hn res hR _ 0 _ s.toks _ #[] [] (Nat.sub_zero _) (Nat.zero_le _) (hst.keep off oth) (fun b o hb e => oth b o hb.1 e) hS₃ rfl rfl
    ⟨List.Pairwise.nil, (fun _ ha => nomatch ha), (fun j a hj => by simp at hj)⟩
/-- list(z), z a zip of two lists that was just made -/
theorem zp_call {Q : Value → Shared → Prop} (hh : A.handled = none) (D : ZipApart z TI TO i1 i2 l1 l2) (hz : IsZip s.heap z TI TO .none) (hTI : IsPair s.heap TI (.ref i1) (.ref i2)) (hTO : IsPair s.heap TO .none .none) (h1 : s.heap.IsListIter i1 l1 0) (h2 : s.heap.IsListIter i2 l2 0)
    (hl1 : s.heap.IsList l1 xs) (hl2 : s.heap.IsList l2 ys) (hn : min xs.size ys.size ≤ sizeLine)
    (hQ : ∀ h' tk acc c as, (∀ b o, b ≠ z → b ≠ TO → b ≠ i1 → b ≠ i2 → s.heap.get? b = some o → h'.get? b = some o) → h'.get? s.heap.objs.size = some { cls := .type "list", dict := none, data := .seq acc c, slots := #[] } → as.length = min xs.size ys.size → ZG xs ys s.heap.objs.size h' as →
      acc.toList = as.map Value.ref → Q (.ref s.heap.objs.size) { s with heap := h', toks := tk }) :
    wpAny (model prog w) A (call (.type "list") [.ref z]) Q E s := by
  refine callType_codes (Q₁ := fun obj s₁ => obj = .ref s.heap.objs.size ∧ s₁ = { s with heap := s.heap.push { cls := .type "list", data := .seq #[] } }) PySem.F.called_list (PySem.F.typeCall_list_1 _) PySem.F.entry_list_init
    (code_list_new _ ⟨rfl, rfl⟩) fun obj s₁ q₁ => ?_
  obtain ⟨rfl, rfl⟩ := q₁
  have hS : (s.heap.push { cls := .type "list", data := .seq #[] }).get? s.heap.objs.size = some { cls := .type "list", data := .seq #[] } := Heap.get?_push_size _ rfl
  have ltz := Heap.lt_size hz
  have ltTI := Heap.lt_size hTI
  have ltTO := Heap.lt_size hTO
  have lt1 : i1 < s.heap.objs.size := let ⟨_, e, _⟩ := h1; Heap.lt_size e
  have lt2 : i2 < s.heap.objs.size := let ⟨_, e, _⟩ := h2; Heap.lt_size e
  have ll1 : l1 < s.heap.objs.size := let ⟨_, e, _⟩ := hl1; Heap.lt_size e
  have ll2 : l2 < s.heap.objs.size := let ⟨_, e, _⟩ := hl2; Heap.lt_size e
  have off : ZOff z TI TO i1 i2 l1 l2 s.heap.objs.size := ⟨Nat.ne_of_lt ltz, Nat.ne_of_lt ltTI, Nat.ne_of_lt ltTO, Nat.ne_of_lt lt1, Nat.ne_of_lt lt2, Nat.ne_of_lt ll1, Nat.ne_of_lt ll2⟩
  have st0 : ZSt z TI TO i1 i2 l1 l2 s.heap.objs.size xs ys 0 s.heap := ⟨hTI, h1, h2, hl1, hl2, .inl ⟨hz, _, _, hTO⟩⟩
  have pushed : ∀ b u, s.heap.get? b = some u → (s.heap.push { cls := .type "list", data := .seq #[] }).get? b = some u := fun b u e => Heap.get?_push_of_some _ e
  refine ⟨⟨_, hS, rfl⟩, PySem.F.args_list_init_2 _ _, ?_⟩
  show wpAny _ _ (do let old ← Builtin.List.listItems (.ref s.heap.objs.size); Builtin.List.listUpdate (.ref s.heap.objs.size) (fun _ => #[]); letGo old.toList.reverse; Builtin.List.listExtendWith (.ref s.heap.objs.size) (.ref z) .none) _ _ _
  refine wpAny_bind ?_
  unfold Builtin.List.listItems
  refine wpAny_bind (wpAny_seqItems hS rfl (wpAny_pure ?_))
  show wpAny _ _ (updateSeq s.heap.objs.size (fun _ => #[]) >>= fun _ => letGo (#[] : Array Value).toList.reverse >>= fun _ => Builtin.List.listExtendWith (.ref s.heap.objs.size) (.ref z) .none) _ _ _
  refine wpAny_bind (wpAny_updateSeq hS rfl ?_)
  have hS₂ := Heap.get?_update_self (Obj.mapSeq (fun _ => (#[] : Array Value))) hS rfl
  have oth : ∀ b o, b ≠ s.heap.objs.size → s.heap.get? b = some o → ((s.heap.push { cls := .type "list", data := .seq #[] }).update s.heap.objs.size (Obj.mapSeq (fun _ => (#[] : Array Value)))).get? b = some o :=
    fun b o hb e => (Heap.get?_update_other _ _ (Ne.symm hb)).trans (pushed b o e)
  refine wpAny_bind (wpAny_letGo ?_)
  refine zp_extend (A := A.in1) (s := { s with heap := (s.heap.push { cls := .type "list", data := .seq #[] }).update s.heap.objs.size (Obj.mapSeq (fun _ => (#[] : Array Value))) }) hh D off ⟨ltz, ltTO, lt1, lt2⟩ (st0.keep off oth) (oth _ _ off.z hz) .none _ hS₂ (fun h' tk acc c as hk hS' hl hG hacc => ?_) hn
  exact ⟨rfl, hQ h' tk acc c as (fun b o b1 b2 b3 b4 e => hk b o ⟨Nat.ne_of_lt (Heap.lt_size e), b1, b2, b3, b4⟩ (oth b o (Nat.ne_of_lt (Heap.lt_size e)) e)) hS' hl hG hacc⟩
end
end Ac
namespace Ac
open PySem PySem.Spec PyProof.Rows L2
section
variable {X : Cx} {e e2 : Expr} {ta : TA} {p p2 pos2 pos : Pos}
def rZipL (K : PySem.W.Frag) : List V → Hp → VK → Prop := fun vs H Q => ∃ (a b : Addr) (xs ys : List V), vs = [.ref a, .ref b] ∧ SqL K H a xs ∧ SqL K H b ys ∧
  ∀ (H' : Hp) (l : Addr) (ts : List Addr), (∀ b o, H b = some o → H' b = some o) → H l = none → (∀ t ∈ ts, H t = none) → ts.length = min xs.length ys.length → H' l = some (.lst (ts.map V.ref)) →
    (∀ (j : Nat) (t : Addr), ts[j]? = some t → ∃ x y, xs[j]? = some x ∧ ys[j]? = some y ∧ H' t = some (.tup [x, y])) → Q (.ref l) H'
def tListZip (K : PySem.W.Frag) (ta : TA) : TE := fun σ H Q => ta σ H fun vs H1 => rZipL K vs H1 Q
theorem vals_ix : ∀ {xs : List V} {us : List Value}, Vals xs us → ∀ {j : Nat} {u : Value}, us[j]? = some u → ∃ x, xs[j]? = some x ∧ RelV x u
  | _, _, .nil, j, u, h => by simp at h
  | _, _, .cons r t, 0, u, h => by
    have e := Option.some.inj h
    subst e
    exact ⟨_, rfl, r⟩
  | _, _, .cons r t, j + 1, u, h => vals_ix t h
/-- list(zip(e, e2)) -/
theorem pe_listZip (hc : X.calm = true) (ha : PA X [e, e2] ta) (hg : Gl X "list") (hm : X.mg "list" = none) (hv : bootBuiltins "list" = some (.type "list")) (hgz : Gl X "zip") (hmz : X.mg "zip" = none)
    (hs : starEach [.Call (.Name "zip" p2) [e, e2] [] pos2] X.env = (false, eval (.Call (.Name "zip" p2) [e, e2] [] pos2) X.env) :: starEach [] X.env := by rfl)
    (hs2 : starEach [e, e2] X.env = (false, eval e X.env) :: starEach [e2] X.env := by rfl) (hpl : (backTo pos2 (starEach [e2] X.env)).any (·.1) = false := by rfl) :
    PE X (.Call (.Name "list" p) [.Call (.Name "zip" p2) [e, e2] [] pos2] [] pos) (tListZip X.K ta) := by
  refine ⟨fun pins s σ H Q I hq => ?_⟩
  refine wpAny_Call_Name_kw (ld_blt I hg hm hv ?_)
  refine PyProof.Rows.callWith_type1 ?_ hs rfl
  rw [hs]
  show wpAny _ _ (spliced ((false, eval (.Call (.Name "zip" p2) [e, e2] [] pos2) X.env) :: backTo pos (starEach [] X.env))) _ _ s
  refine Calls.spliced_cons ?_
  refine Call_ (ld_blt I hgz hmz PyProof.Rows.boot_zip (PyProof.Rows.callWith_type1 (thn (ha.run pos2 pins s σ H _ I hq) fun us s1 ⟨vs, H1, I1, r1, q1⟩ => ?_) hs2 hpl))
  obtain ⟨a, b, xs, ys, ex, hqx, hqy, q⟩ := q1
  subst ex
  cases r1 with
  | cons r rr =>
    cases rr with
    | cons r' rr =>
      cases rr
      cases r
      cases r'
      obtain ⟨its, rv, p1, z1⟩ := I1.list hqx
      obtain ⟨its2, rv2, p2, z2⟩ := I1.list hqy
      have la : a < s1.heap.objs.size := p1.lt
      have lb : b < s1.heap.objs.size := p2.lt
      have l1 := rv.length
      have l2 := rv2.length
      refine call_zip_2 p1.isList p2.isList fun h' hz hTI hTO h1 h2 hsz hk => ?_
      refine Calls.spliced_nil ?_
      have D := PySem.W.ktu_apart s1.heap.objs.size a b la lb
      refine zp_call (s := { s1 with heap := h' }) (xs := its.toArray) (ys := its2.toArray) (I1.ok.hd hc) D hz hTI hTO h1 h2 (p1.isList.at fun o e => hk _ o e) (p2.isList.at fun o e => hk _ o e) (by simp only [List.size_toArray]; exact Nat.le_trans (Nat.min_le_left ..) (by rw [← l1]; exact z1)) fun h'' tk acc c as hk2 hS hl hG hacc => ?_
      dsimp only at hk2 hS hl hG
      rw [hsz] at hS hG ⊢
      have hkA : ∀ b o, s1.heap.get? b = some o → h''.get? b = some o := fun b o e => by
        have lt : (b : Nat) < s1.heap.objs.size := Heap.lt_size e
        exact hk2 b o (Nat.ne_of_lt (Nat.lt_of_lt_of_le lt (Nat.le_add_right _ _))) (Nat.ne_of_lt (Nat.lt_of_lt_of_le lt (Nat.le_add_right _ _))) (Nat.ne_of_lt lt) (Nat.ne_of_lt (Nat.lt_of_lt_of_le lt (Nat.le_add_right _ _))) (hk b o e)
      have nd : as.Nodup := List.Pairwise.imp (fun h => Nat.ne_of_lt h) hG.rise
      have hS0 : s1.heap.objs.size ≤ s1.heap.objs.size + 5 := Nat.le_add_right _ _
      have hn0 : H1 (s1.heap.objs.size + 5) = none := I1.hok.fresh hS0
      have J1 : Inv X pins σ H1 { s1 with heap := h'', toks := tk } := I1.kept (t' := tk) hkA
      have J2 : Inv X pins σ (upd H1 (s1.heap.objs.size + 5) (.lst (as.map V.ref))) { s1 with heap := h'', toks := tk } :=
        J1.take (h' := h'') (t' := tk) (fun b ob _ e => e) (I1.fpOk hS0 hn0) ⟨by rw [List.length_map, hl]; simp only [List.size_toArray]; exact Nat.le_trans (Nat.min_le_left ..) (by rw [← l1]; exact z1), acc.toList, c, by rw [hacc]; exact LiI.vals_refs as, by rw [Array.toArray_toList]; exact hS⟩
      obtain ⟨H2, J3, g, qt⟩ := L2.DX.takeT (P := fun b vs => ∃ (j : Nat) (x y : V), as[j]? = some b ∧ xs[j]? = some x ∧ ys[j]? = some y ∧ vs = [x, y]) I1 as _ J2 nd fun b hb => by
        obtain ⟨j, hj⟩ := List.mem_iff_getElem?.mp hb
        obtain ⟨u, v, eu, ev, hg'⟩ := hG.pairs j b hj
        have hbl : s1.heap.objs.size + 5 < (b : Nat) := hG.above b hb
        have hbl2 : s1.heap.objs.size ≤ (b : Nat) := by omega
        obtain ⟨x, hx, rx⟩ := vals_ix rv (j := j) (u := u) (by simpa using eu)
        obtain ⟨y, hy, ry⟩ := vals_ix rv2 (j := j) (u := v) (by simpa using ev)
        refine ⟨hbl2, ?_, [x, y], ⟨j, x, y, hj, hx, hy, rfl⟩, fun H3 => ⟨(by rw [sizeLine_eq]; show 2 ≤ 16777216; omega), [u, v], .cons rx (.cons ry .nil), ⟨_, hg', rfl, 0, rfl⟩⟩⟩
        rw [upd_ne (Nat.ne_of_gt hbl)]
        exact I1.hok.fresh hbl2
      have gr : ∀ b o, H1 b = some o → H2 b = some o := fun b o e => g b o (by rw [upd_ne (ne_of_none e hn0)]; exact e)
      refine ⟨.ref (s1.heap.objs.size + 5), H2, J3, rfl, q H2 _ as gr hn0 (fun t ht => I1.hok.fresh (Nat.le_trans hS0 (Nat.le_of_lt (hG.above t ht)))) (by rw [hl]; simp only [List.size_toArray]; rw [l1, l2]) (g _ _ upd_same) fun j t ht => ?_⟩
      obtain ⟨vs, ⟨j', x, y, hj', hx, hy, e⟩, hH⟩ := qt t (List.mem_of_getElem? ht)
      have eij : j = j' := (List.getElem?_inj (List.getElem?_eq_some_iff.mp ht).1 nd).mp (ht.trans hj'.symm)
      subst eij
      rw [e] at hH
      exact ⟨x, y, hx, hy, hH⟩
end
end Ac

set_option Elab.async false
set_option linter.all false
set_option maxRecDepth 100000
set_option maxHeartbeats 2000000
/-! R3: min(d), max(d) over the keys of a dict of ints -/
namespace Ac
open PySem PySem.Spec PyProof.Rows L2
section
variable {X : Cx}
/-- the i-th key as a number -/
def keyAt (kvs : List (L2.Key × V)) (i : Nat) : Int := match kvs[i]? with
  | some (.inl n, _) => n
  | _ => 0
def rMinD : List V → Hp → VK → Prop := fun vs H Q => ∃ (a : Addr) (ps : List (Int × Int)), vs = [V.ref a] ∧ H a = some (.dK (ps.map fun q => (Sum.inl q.1, V.int q.2))) ∧ 0 < ps.length ∧
  ∀ q, q ∈ ps → (∀ r, r ∈ ps → q.1 ≤ r.1) → Q (.int q.1) H
def rMaxD : List V → Hp → VK → Prop := fun vs H Q => ∃ (a : Addr) (ps : List (Int × Int)), vs = [V.ref a] ∧ H a = some (.dK (ps.map fun q => (Sum.inl q.1, V.int q.2))) ∧ 0 < ps.length ∧
  ∀ q, q ∈ ps → (∀ r, r ∈ ps → r.1 ≤ q.1) → Q (.int q.1) H
def numP (ps : List (Int × Int)) (i : Nat) : Int := ((ps[i]?).map (·.1)).getD 0
theorem numP_at {ps : List (Int × Int)} {i : Nat} {q : Int × Int} (h : ps[i]? = some q) : numP ps i = q.1 := by unfold numP; rw [h]; rfl
theorem key_num {prog : Program} {w : World} {ps : List (Int × Int)} {vs : List (L2.Key × Value)} (kv : KV (ps.map fun q => ((Sum.inl q.1 : L2.Key), V.int q.2)) vs) (i : Nat) (v : Value) (h : ∃ k x, vs[i]? = some (k, x) ∧ (mixKind prog w).is k v = true) : ∃ t, v = .int (numP ps i) t := by
  obtain ⟨k, x, hx, hk⟩ := h
  have hl := Paired.length kv
  have hi := (List.getElem?_eq_some_iff.mp hx).1
  have e1 : (ps.map fun q => ((Sum.inl q.1 : L2.Key), V.int q.2))[i]? = some (ps.map fun q => ((Sum.inl q.1 : L2.Key), V.int q.2))[i] := List.getElem?_eq_getElem (by rw [hl]; exact hi)
  obtain ⟨y, hy, r1, r2⟩ := LiI.paired_get kv e1
  rw [hx] at hy
  cases hy
  rw [List.getElem?_map] at e1
  cases hp : ps[i]? with
  | none => rw [hp] at e1; cases e1
  | some q =>
    rw [hp] at e1
    have e2 := Option.some.inj e1
    rw [← e2] at r1
    have hk' : keyIs k v = true := hk
    have r1' : (Sum.inl q.1 : L2.Key) = k := r1
    rw [← r1'] at hk'
    have rk : RelV (kV (Sum.inl q.1)) v := relV_key hk'
    obtain ⟨t, ht⟩ : ∃ t, v = Value.int q.1 t := rk
    exact ⟨t, by rw [numP_at hp]; exact ht⟩
theorem cr_minD (hc : X.calm = true) : CallR X (.builtin "min") rMinD := by
  intro pins s σ H vs us Q I r h
  obtain ⟨a, ps, rfl, ha, hne, q⟩ := h
  rw [Vals.ref1 r]
  obtain ⟨z, hd, vs, kv, hdo⟩ := I.hok a _ ha
  obtain ⟨ep, hat⟩ := hdo.dictAt
  have hl := Paired.length kv
  rw [List.length_map] at hl
  have hh : X.A.in1.handled = none := I.ok.hd hc
  have lta : a < s.heap.objs.size := hat.lt_size
  refine call_min_walk (wpAny_pyIter_dict hd hat ?_)
  refine ⟨_, _, _, _, _, _, _, rfl, Walks.dictKeys (knd := mixKind X.prog X.w) (A := X.A.in1) hh s.heap.objs.size a (Nat.ne_of_lt lta) vs ep, ⟨⟨_, Heap.get?_push_size _ rfl, rfl, rfl⟩, hat.push _⟩, fun b hb => ?_, by omega, CmpOf.ints_lt (numP ps) (key_num kv), fun v h' tk hP hk => ?_⟩
  · show b < (s.heap.push _).objs.size
    rw [Heap.size_push]
    rcases List.mem_cons.mp hb with rfl | hb
    · exact Nat.lt_succ_self _
    · rcases List.mem_cons.mp hb with rfl | hb
      · exact Nat.lt_succ_of_lt lta
      · cases hb
  · obtain ⟨h1, h2⟩ := argBest_lt (numP ps) (vs.length - 1)
    obtain ⟨t, ht⟩ := key_num kv _ v hP
    have hb : argBest (fun i j => decide (numP ps i < numP ps j)) (vs.length - 1) < ps.length := by omega
    have e := List.getElem?_eq_getElem hb
    have hkA : ∀ b o, s.heap.get? b = some o → h'.get? b = some o := fun b o e => hk b o (fun hm => by
      rw [List.mem_singleton.mp hm] at e
      exact Nat.lt_irrefl _ (Heap.lt_size e)) (Heap.get?_push_of_some _ e)
    refine ⟨.int _, H, I.kept hkA, ⟨t, ?_⟩, q _ (List.getElem_mem hb) fun r hr => ?_⟩
    · rw [ht, numP_at e]
    · obtain ⟨j, hj⟩ := List.mem_iff_getElem?.mp hr
      have hj2 := (List.getElem?_eq_some_iff.mp hj).1
      have := h2 j (by omega)
      rw [numP_at e, numP_at hj] at this
      exact this
theorem cr_maxD (hc : X.calm = true) : CallR X (.builtin "max") rMaxD := by
  intro pins s σ H vs us Q I r h
  obtain ⟨a, ps, rfl, ha, hne, q⟩ := h
  rw [Vals.ref1 r]
  obtain ⟨z, hd, vs, kv, hdo⟩ := I.hok a _ ha
  obtain ⟨ep, hat⟩ := hdo.dictAt
  have hl := Paired.length kv
  rw [List.length_map] at hl
  have hh : X.A.in1.handled = none := I.ok.hd hc
  have lta : a < s.heap.objs.size := hat.lt_size
  refine call_max_walk (wpAny_pyIter_dict hd hat ?_)
  refine ⟨_, _, _, _, _, _, _, rfl, Walks.dictKeys (knd := mixKind X.prog X.w) (A := X.A.in1) hh s.heap.objs.size a (Nat.ne_of_lt lta) vs ep, ⟨⟨_, Heap.get?_push_size _ rfl, rfl, rfl⟩, hat.push _⟩, fun b hb => ?_, by omega, CmpOf.ints_gt (numP ps) (key_num kv), fun v h' tk hP hk => ?_⟩
  · show b < (s.heap.push _).objs.size
    rw [Heap.size_push]
    rcases List.mem_cons.mp hb with rfl | hb
    · exact Nat.lt_succ_self _
    · rcases List.mem_cons.mp hb with rfl | hb
      · exact Nat.lt_succ_of_lt lta
      · cases hb
  · obtain ⟨h1, h2⟩ := argBest_gt (numP ps) (vs.length - 1)
    obtain ⟨t, ht⟩ := key_num kv _ v hP
    have hb : argBest (fun i j => decide (numP ps i > numP ps j)) (vs.length - 1) < ps.length := by omega
    have e := List.getElem?_eq_getElem hb
    have hkA : ∀ b o, s.heap.get? b = some o → h'.get? b = some o := fun b o e => hk b o (fun hm => by
      rw [List.mem_singleton.mp hm] at e
      exact Nat.lt_irrefl _ (Heap.lt_size e)) (Heap.get?_push_of_some _ e)
    refine ⟨.int _, H, I.kept hkA, ⟨t, ?_⟩, q _ (List.getElem_mem hb) fun r hr => ?_⟩
    · rw [ht, numP_at e]
    · obtain ⟨j, hj⟩ := List.mem_iff_getElem?.mp hr
      have hj2 := (List.getElem?_eq_some_iff.mp hj).1
      have := h2 j (by omega)
      rw [numP_at e, numP_at hj] at this
      exact this
end
end Ac

set_option Elab.async false
set_option linter.all false
set_option maxRecDepth 100000
set_option maxHeartbeats 2000000
/-! R4: d[k] of a written dict whose keys and values are ints -/
namespace Ac
open PySem PySem.Spec PyProof.Rows L2
def intsOf : List DictEntry → Option (List (Int × Int))
  | [] => some []
  | e :: r => match e.key, e.val with
    | .int k _, .int v _ => if e.hash = hashInt k then (intsOf r).map ((k, v) :: ·) else none
    | _, _ => none
def KDI (K : PySem.W.Frag) (a : Addr) (ps : List (Int × Int)) : Prop := ∃ es n, K.lookup a = some ⟨.type "dict", none, .dict es n, #[]⟩ ∧ intsOf es.toList = some ps
def rIxKI (K : PySem.W.Frag) : R2 := fun x y H Q => ∃ (p : Addr) (ps : List (Int × Int)) (z v : Int), x = .ref p ∧ y = .int z ∧ KDI K p ps ∧ ps.lookup z = some v ∧ Q (.int v) H
theorem intsOf_cons {e : DictEntry} {r : List DictEntry} {ps : List (Int × Int)} (h : intsOf (e :: r) = some ps) : ∃ k v t u ps', e.key = .int k t ∧ e.val = .int v u ∧ e.hash = hashInt k ∧ intsOf r = some ps' ∧ ps = (k, v) :: ps' := by
  unfold intsOf at h
  split at h
  · rename_i k t v u e1 e2
    by_cases c : e.hash = hashInt k
    · rw [if_pos c] at h
      cases q : intsOf r with
      | none => rw [q] at h; cases h
      | some ps' =>
        rw [q] at h
        exact ⟨k, v, t, u, ps', e1, e2, c, rfl, (Option.some.inj h).symm⟩
    · rw [if_neg c] at h; cases h
  · cases h
theorem intsOf_keys {w : World} : ∀ {es : List DictEntry} {ps : List (Int × Int)}, intsOf es = some ps → ∀ e ∈ es, ∃ k : L2.Key, keyIs k e.key = true ∧ e.hash = keyH w k
  | [], _, _, e, he => by cases he
  | d :: r, ps, h, e, he => by
    obtain ⟨k, v, t, u, ps', e1, e2, e3, e4, e5⟩ := intsOf_cons h
    rcases List.mem_cons.mp he with z | z
    · rw [z]
      exact ⟨Sum.inl k, by rw [e1]; exact keyIs_int k t, e3⟩
    · exact intsOf_keys e4 e z
theorem intsOf_find : ∀ {es : List DictEntry} {ps : List (Int × Int)} {z v : Int}, intsOf es = some ps → ps.lookup z = some v → ∃ u, (es.find? fun e => keyIs (Sum.inl z) e.key).map (·.val) = some (.int v u)
  | [], ps, z, v, h, hl => by
    have e : ps = [] := (Option.some.inj h).symm
    rw [e] at hl
    cases hl
  | d :: r, ps, z, v, h, hl => by
    obtain ⟨k, v', t, u, ps', e1, e2, e3, e4, e5⟩ := intsOf_cons h
    rw [e5, List.lookup_cons] at hl
    by_cases c : z = k
    · subst c
      rw [beq_self_eq_true] at hl
      have ev : v' = v := Option.some.inj hl
      subst ev
      have hk : keyIs (Sum.inl z) d.key = true := by rw [e1]; exact keyIs_int z t
      exact ⟨u, by rw [List.find?_cons, hk]; exact congrArg some e2⟩
    · have cb : (z == k) = false := by simp [c]
      rw [cb] at hl
      have hk : keyIs (Sum.inl z) d.key = false := by
        cases q : keyIs (Sum.inl z) d.key with
        | false => rfl
        | true =>
          rcases keyIs_shape q with ⟨i, t', q1, q2⟩ | ⟨x, t', q1, q2⟩
          · rw [e1] at q2
            injection q2 with q3
            injection q1 with q4
            exact absurd (q4.trans q3.symm) c
          · cases q1
      obtain ⟨u', hu⟩ := intsOf_find e4 hl
      exact ⟨u', by rw [List.find?_cons, hk]; exact hu⟩
section
variable {X : Cx}
theorem ix_kints : IxR X (rIxKI X.K) := by
  intro value slice pins s σ H x y v u Q I rx ry h hs
  obtain ⟨p, ps, z, r, rfl, rfl, ⟨es, n, hl, hi⟩, e, q⟩ := h
  obtain rfl : v = Value.ref p := rx
  have hg : s.heap.get? p = some ⟨.type "dict", none, .dict es n, #[]⟩ := I.kIn p _ hl
  have hm : s.heap.MapOf (mixKind X.prog X.w) p fun k => findBy (mixKind X.prog X.w).is es k :=
    ⟨_, es, n, hg, ⟨rfl, rfl, rfl⟩, rfl, fun e' he => intsOf_keys hi e' (by simpa using he), fun _ => rfl⟩
  obtain ⟨u', hu⟩ := intsOf_find hi e
  have hf : findBy (mixKind X.prog X.w).is es (Sum.inl z) = some (.int r u') := by
    unfold findBy
    rw [← Array.find?_toList]
    exact hu
  exact tail_any hm.typeIs slot_dict_getitem.lookup (wpAny_getItem_of (kV_is (k := Sum.inl z) ry) hm hf ⟨.int r, H, I.tok _, ⟨u', rfl⟩, q⟩) hs
end
end Ac

set_option Elab.async false
set_option linter.all false
set_option maxRecDepth 100000
set_option maxHeartbeats 2000000
/-! The heap, the words of the promises -/
namespace Ac
open PySem PySem.Spec PyProof.Rows L2
/-- the i-th statement of the program -/
def top (i : Nat) : Stmt := PySem.Challenge.pw_anewcounts_s01_answers.main.body.getD i (.Pass ⟨0, 0, 0, 0⟩)
/-- a def that stands and keeps its promise -/
structure Df (P : Program) (w : World) (K : PySem.W.Frag) (mg : Str → Option Value) (base : Heap) (x : Str) (k : Nat) (ps : List Str) (sp : Sp) : Prop where
  ex : ∃ f fd, FnOk P w K mg base CX0 k f fd ps sp ∧ mg x = some (.ref f) ∧ PySem.W.keepIn K (.ref f) = true ∧ Binds K fd ps []
theorem pe_df {X : Cx} {x : Str} {k : Nat} {ps : List Str} {sp : Sp} {e : Expr} {es : List Expr} {t : TA} {p pos : Pos} (D : Df X.prog X.w X.K X.mg X.base x k ps sp) (hr : Room k X.A) (hg : Gl X x) (ha : PA X (e :: es) t)
    (hdb : (x == ("__debug__" : Str)) = false := by decide) (he : starEach (e :: es) X.env = (false, eval e X.env) :: starEach es X.env := by rfl) (hpl : (backTo pos (starEach es X.env)).any (·.1) = false := by rfl) :
    PE X (.Call (.Name x p) (e :: es) [] pos) (tCall sp [] E0 t) := by
  obtain ⟨f, fd, G, m, kp, b⟩ := D.ex
  exact pe_call G hr hg m kp b .nil pass0 ha hdb he hpl
/-- a sample as two ints -/
abbrev cst (x : Nat × Nat) : Int × Int := ((x.1 : Int), (x.2 : Int))
/-- the series s stands as a dict at d, in whatever order -/
def DictS (H : Hp) (d : Addr) (s : Sq37.Series) : Prop := ∃ ps : List (Int × Int), H d = some (.dK (ps.map entK)) ∧ ps.Perm (s.map cst)
/-- what a series is -/
structure Good (s : Sq37.Series) : Prop where
  rise : Rise s
  time : ∀ x ∈ s, x.1 ≤ 1000000
  val : ∀ x ∈ s, x.2 ≤ 1000000000
  len : s.length ≤ 60
/-- a sample as a tuple -/
def SmAt (H : Hp) (t : Addr) (x : Nat × Nat) : Prop := H t = some (.tup [.int x.1, .int x.2])
/-- each sample with the next -/
def Nbrs (H : Hp) (p : Addr) (s : Sq37.Series) : Prop := ∃ qs : List Addr, H p = some (.lst (qs.map V.ref)) ∧ qs.length = s.length - 1 ∧
  ∀ (i : Nat) (q : Addr), qs[i]? = some q → ∃ t u x y, s[i]? = some x ∧ s[i + 1]? = some y ∧ H q = some (.tup [.ref t, .ref u]) ∧ SmAt H t x ∧ SmAt H u y
theorem DictS.same {H H' : Hp} {d : Addr} {s : Sq37.Series} (h : DictS H d s) (e : Same H H') : DictS H' d s := let ⟨ps, h1, h2⟩ := h; ⟨ps, e _ _ h1, h2⟩
theorem Nbrs.same {H H' : Hp} {p : Addr} {s : Sq37.Series} (h : Nbrs H p s) (e : Same H H') : Nbrs H' p s := by
  obtain ⟨qs, h1, h2, h3⟩ := h
  refine ⟨qs, e _ _ h1, h2, fun i q hq => ?_⟩
  obtain ⟨t, u, x, y, a1, a2, a3, a4, a5⟩ := h3 i q hq
  exact ⟨t, u, x, y, a1, a2, e _ _ a3, e _ _ a4, e _ _ a5⟩
theorem same_upd {H : Hp} {p : Addr} {o : HO} (h : H p = none) : Same H (upd H p o) := fun b u e => by rw [upd_ne (ne_of_none e h)]; exact e
/-- a written tuple's items -/
theorem at0 {α : Type} {a : α} {l : List α} : atI (a :: l) 0 = some a := atI_nat (j := 0) rfl
theorem at1 {α : Type} {a b : α} {l : List α} : atI (a :: b :: l) 1 = some b := atI_nat (j := 1) rfl
theorem if_true_of {c : Bool} {A B : Prop} (hc : c = true) (h : A) : if c = true then A else B := by
  rw [if_pos hc]
  exact h
theorem if_false_of {c : Bool} {A B : Prop} (hc : c = false) (h : B) : if c = true then A else B := by
  rw [hc, if_neg Bool.false_ne_true]
  exact h
/-- a strictly rising series is the one arrangement by its times -/
theorem sorted_uniq : ∀ {l m : List (Int × Int)}, l.Perm m → l.Pairwise (fun x y => SrtO.lexB y x = false) → m.Pairwise (fun x y => x.1 < y.1) → l = m
  | [], m, p, _, _ => (List.Perm.eq_nil p.symm).symm
  | x :: l, [], p, _, _ => absurd p.length_eq (by simp)
  | x :: l, y :: m, p, hl, hm => by
    have hm' := List.pairwise_cons.mp hm
    have hl' := List.pairwise_cons.mp hl
    have e : x = y := by
      rcases List.mem_cons.mp (p.mem_iff.mp (List.mem_cons_self ..)) with e | h1
      · exact e
      · rcases List.mem_cons.mp (p.mem_iff.mpr (List.mem_cons_self (a := y))) with e | h2
        · exact e.symm
        · have a := hm'.1 x h1
          have b := SrtO.lexB_no.mp (hl'.1 y h2)
          omega
    subst e
    rw [sorted_uniq (List.Perm.cons_inv p) hl'.2 hm'.2]
theorem cut_tail (xs : List V) : cutV xs (some 1) none = xs.tail := by
  unfold cutV
  have e1 : HT.sIx xs.length 0 (some 1) = min 1 xs.length := HT.sIx_nat _ _ 1
  rw [e1, HT.sIx_none]
  cases xs with
  | nil => rfl
  | cons x xs =>
    have e2 : min 1 (x :: xs).length = 1 := by simp only [List.length_cons]; omega
    rw [e2]
    show (xs.take (xs.length + 1 - 1)) = xs
    rw [Nat.add_sub_cancel, List.take_length]
theorem rise_cst {s : Sq37.Series} (h : Rise s) : (s.map cst).Pairwise (fun x y => x.1 < y.1) := by
  rw [List.pairwise_map]
  exact h.imp fun h => by show ((_ : Nat) : Int) < ((_ : Nat) : Int); omega
end Ac

set_option Elab.async false
set_option linter.all false
set_option maxRecDepth 100000
set_option maxHeartbeats 2000000
namespace Ac
open PySem PySem.Spec PyProof.Rows L2
abbrev sNbr : Stmt := top 8
abbrev sBeg : Stmt := top 9
abbrev sBet : Stmt := top 10
/-- neighbours(samples) -/
def spNbr : Sp := fun vs H Q _ => ∃ (d : Addr) (s : Sq37.Series), vs = [.ref d] ∧ DictS H d s ∧ Good s ∧ ∀ (H' : Hp) (p : Addr), Same H H' → H p = none → Nbrs H' p s → Q (.ref p) H'
def spBeg : Sp := fun vs H Q _ => ∃ (t u : Addr) (x y : Nat × Nat), vs = [.ref t, .ref u] ∧ SmAt H t x ∧ SmAt H u y ∧ Q (.bl (decide (y.2 < x.2))) H
def spBet : Sp := fun vs H Q _ => ∃ (t u : Addr) (x y : Nat × Nat), vs = [.ref t, .ref u] ∧ SmAt H t x ∧ SmAt H u y ∧ Q (.int (Sq37.step x.2 y.2 : Nat)) H
section
variable {P : Program} {w : World} {K : PySem.W.Frag} {mg : Str → Option Value} {base : Heap}
theorem scNbr : FnScope ["samples", "by_time"] ["samples"] (defScope sNbr) := ⟨rfl, rfl, rfl, by decide +kernel, rfl, by decide +kernel, by decide +kernel⟩
theorem ok_nbr {f : Addr} {fd : FuncData} (F : Fun K "neighbours" "neighbours" sNbr f fd) (mS : mg "sorted" = none) (mL : mg "list" = none) (mZ : mg "zip" = none) : FnOk P w K mg base CX0 1 f fd ["samples"] spNbr := by
  refine F.ok scNbr (fun vs H Q E h => ?_) (fun cdv A outer s H vs Q E hr h => ?_)
  · obtain ⟨d, s, rfl, _⟩ := h
    rfl
  · obtain ⟨d, sr, rfl, ⟨ps, hd, hp⟩, G, k⟩ := h
    refine ⟨_, pss_cons (ps_set (i := 1) scNbr.nd rfl (Or.inl rfl) (pe_callB (cr_sortedItI rfl) (by rfl) mS (by decide +kernel) (pa_cons (pe_bm0 PySem.F.plainAttrs_dict PySem.F.slot_dict_items PySem.F.type_dict_items mt_itemsK (pv 0)) pa_nil)))
      (pss_one (ps_ret (pe_listZip rfl (pa_cons (pv 1) (pa_cons (pe_slice sl_list (pv 1) (po_some pe_int) po_none) pa_nil)) (by rfl) mL (by decide +kernel) (by rfl) mZ))), ?_⟩
    refine ⟨_, rfl, .inr (.inr (.inl ⟨rfl, .inl ⟨_, hd⟩⟩)), d, _, rfl, rfl, hd, fun v hv => ?_⟩
    refine ⟨v, d, ps, rfl, upd_same, (by rw [upd_ne (ne_of_none hd hv)]; exact hd), fun H1 l zs e1 hpm hst hl hl2 hz => ?_⟩
    have s1 : Same H H1 := fun b o e => e1 b o (by rw [upd_ne (ne_of_none e hv)]; exact e)
    have ez : zs.map (·.2) = sr.map cst := sorted_uniq (hpm.trans hp) hst (rise_cst G.rise)
    have lz : zs.length = sr.length := by have := congrArg List.length ez; simpa using this
    refine ⟨_, rfl, _, rfl, 1, rfl, l, _, rfl, SqL.of hl2, fun c hc => ?_⟩
    refine ⟨l, c, zs.map (fun z => V.ref z.1), cutV (zs.map fun z => V.ref z.1) (some 1) none, rfl, SqL.of (by rw [upd_ne (ne_of_none hl2 hc)]; exact hl2), SqL.of upd_same, fun H2 p ts e2 hp0 ht hlen hp2 hts => ?_⟩
    have s2 : Same H1 H2 := (same_upd hc).trans e2
    have cut : ∀ i : Nat, (cutV (zs.map fun z => V.ref z.1) (some 1) none)[i]? = (zs.map fun z => V.ref z.1)[i + 1]? := fun i => by
      rw [cut_tail, List.getElem?_tail]
    have cutl : (cutV (zs.map fun z => V.ref z.1) (some 1) none).length = zs.length - 1 := by
      rw [cut_tail, List.length_tail, List.length_map]
    refine k H2 p (s1.trans s2) ((s1.trans (same_upd hc)).free hp0) ⟨ts, hp2, ?_, fun i q hq => ?_⟩
    · rw [hlen, cutl, List.length_map]
      omega
    · obtain ⟨x, y, hx, hy, ht2⟩ := hts i q hq
      rw [cut, List.getElem?_map] at hy
      rw [List.getElem?_map] at hx
      cases e1 : zs[i]? with
      | none => rw [e1] at hx; cases hx
      | some z1 =>
        cases e2 : zs[i + 1]? with
        | none => rw [e2] at hy; cases hy
        | some z2 =>
          rw [e1] at hx
          rw [e2] at hy
          cases hx
          cases hy
          have g : ∀ (j : Nat) (z : Addr × Int × Int), zs[j]? = some z → ∃ x, sr[j]? = some x ∧ SmAt H2 z.1 x := by
            intro j z hj
            have a : (zs.map (·.2))[j]? = some z.2 := by rw [List.getElem?_map, hj]; rfl
            rw [ez, List.getElem?_map] at a
            cases e : sr[j]? with
            | none => rw [e] at a; cases a
            | some x =>
              rw [e] at a
              have b : cst x = z.2 := Option.some.inj a
              refine ⟨x, rfl, ?_⟩
              have c := s2 _ _ (hz z (List.mem_of_getElem? hj)).2
              rw [← b] at c
              exact c
          obtain ⟨x, hx, gx⟩ := g i z1 e1
          obtain ⟨y, hy, gy⟩ := g (i + 1) z2 e2
          exact ⟨z1.1, z2.1, x, y, hx, hy, ht2, gx, gy⟩
theorem scBeg : FnScope ["before", "after"] ["before", "after"] (defScope sBeg) := ⟨rfl, rfl, rfl, by decide +kernel, rfl, by decide +kernel, by decide +kernel⟩
theorem ok_beg {f : Addr} {fd : FuncData} (F : Fun K "began_anew" "began_anew" sBeg f fd) : FnOk P w K mg base CX0 1 f fd ["before", "after"] spBeg := by
  refine F.ok scBeg (fun vs H Q E h => ?_) (fun cdv A outer s H vs Q E hr h => ?_)
  · obtain ⟨t, u, x, y, rfl, _⟩ := h
    rfl
  · obtain ⟨t, u, x, y, rfl, ht, hu, k⟩ := h
    refine ⟨_, pss_one (ps_ret (pe_cmpR op_lt (pe_ix ix_tup (pv 1) pe_int (fun _ _ => rfl)) (pe_ix ix_tup (pv 0) pe_int (fun _ _ => rfl)) (nomark _))), ?_⟩
    refine ⟨_, rfl, u, _, _, _, rfl, rfl, SqT.of hu, at1, _, rfl, t, _, _, _, rfl, rfl, SqT.of ht, at1, _, _, rfl, rfl, ?_⟩
    have e : decide ((y.2 : Int) < (x.2 : Int)) = decide (y.2 < x.2) := by
      apply decide_eq_decide.mpr
      omega
    show Q (V.bl (decide ((y.2 : Int) < (x.2 : Int)))) H
    rw [e]
    exact k
theorem scBet : FnScope ["before", "after"] ["before", "after"] (defScope sBet) := ⟨rfl, rfl, rfl, by decide +kernel, rfl, by decide +kernel, by decide +kernel⟩
theorem ok_bet {f : Addr} {fd : FuncData} (F : Fun K "counted_between" "counted_between" sBet f fd) (DB : Df P w K mg base "began_anew" 1 ["before", "after"] spBeg) : FnOk P w K mg base CX0 2 f fd ["before", "after"] spBet := by
  refine F.ok scBet (fun vs H Q E h => ?_) (fun cdv A outer s H vs Q E hr h => ?_)
  · obtain ⟨t, u, x, y, rfl, _⟩ := h
    rfl
  · obtain ⟨t, u, x, y, rfl, ht, hu, k⟩ := h
    refine ⟨_, pss_cons (ps_if (pt_val (pe_df DB hr rfl (pa_cons (pv 0) (pa_cons (pv 1) pa_nil)))) (pss_one (ps_ret (pe_ix ix_tup (pv 1) pe_int (fun _ _ => rfl)))) pss_nil)
      (pss_one (ps_ret (pe_op op_sub (pe_ix ix_tup (pv 1) pe_int (fun _ _ => rfl)) (pe_ix ix_tup (pv 0) pe_int (fun _ _ => rfl))))), ?_⟩
    refine ⟨_, rfl, _, rfl, t, u, x, y, rfl, ht, hu, _, rfl, ?_⟩
    by_cases c : y.2 < x.2
    · refine if_true_of (decide_eq_true c) ?_
      refine ⟨_, rfl, u, _, _, _, rfl, rfl, SqT.of hu, at1, ?_⟩
      have e : Sq37.step x.2 y.2 = y.2 := if_neg (by omega)
      rw [e] at k
      exact k
    · refine if_false_of (decide_eq_false c) ?_
      refine ⟨_, rfl, u, _, _, _, rfl, rfl, SqT.of hu, at1, _, rfl, t, _, _, _, rfl, rfl, SqT.of ht, at1, _, _, rfl, rfl, ?_⟩
      have e : ((Sq37.step x.2 y.2 : Nat) : Int) = (y.2 : Int) - (x.2 : Int) := by
        have e : Sq37.step x.2 y.2 = y.2 - x.2 := if_pos (by omega)
        rw [e]
        omega
      rw [e] at k
      exact k
end
end Ac

set_option Elab.async false
set_option linter.all false
set_option maxRecDepth 100000
set_option maxHeartbeats 2000000
namespace Ac
open PySem PySem.Spec PyProof.Rows L2
abbrev sUp : Stmt := top 11
abbrev sTot : Stmt := top 12
abbrev sLow : Stmt := top 16
/-- a fraction as a tuple, or None -/
def FrAt (H : Hp) (Q : VK) (r : Option (Nat × Nat)) : Prop := (r = none → ∀ H', Same H H' → Q .non H') ∧ ∀ a b, r = some (a, b) → ∀ H' p, Same H H' → H' p = some (.tup [.int (a : Nat), .int (b : Nat)]) → Q (.ref p) H'
def spUp : Sp := fun vs H Q _ => ∃ (d : Addr) (s : Sq37.Series) (t : Nat), vs = [.ref d, .int t] ∧ DictS H d s ∧ Good s ∧ FrAt H Q (cup 0 s t)
/-- also for a time below 0 -/
def spUpI : Sp := fun vs H Q E => spUp vs H Q E ∨ ∃ (d : Addr) (s : Sq37.Series) (t : Int), vs = [.ref d, .int t] ∧ DictS H d s ∧ Good s ∧ t < 0 ∧ ∀ H', Same H H' → Q .non H'
theorem drop_cons2 {α : Type} {s : List α} {i : Nat} {x y : α} (hx : s[i]? = some x) (hy : s[i + 1]? = some y) : ∃ l, s.drop i = x :: y :: l ∧ s.drop (i + 1) = y :: l := by
  obtain ⟨h1, e1⟩ := List.getElem?_eq_some_iff.mp hx
  obtain ⟨h2, e2⟩ := List.getElem?_eq_some_iff.mp hy
  refine ⟨s.drop (i + 1 + 1), ?_, ?_⟩
  · rw [List.drop_eq_getElem_cons h1, List.drop_eq_getElem_cons h2, e1, e2]
  · rw [List.drop_eq_getElem_cons h2, e2]
theorem rise_at {s : Sq37.Series} (h : Rise s) {i j : Nat} {x y : Nat × Nat} (hij : i < j) (hx : s[i]? = some x) (hy : s[j]? = some y) : x.1 < y.1 := by
  obtain ⟨h1, e1⟩ := List.getElem?_eq_some_iff.mp hx
  obtain ⟨h2, e2⟩ := List.getElem?_eq_some_iff.mp hy
  have := List.pairwise_iff_getElem.mp h i j h1 h2 hij
  rw [e1, e2] at this
  exact this
section
variable {P : Program} {w : World} {K : PySem.W.Frag} {mg : Str → Option Value} {base : Heap}
theorem scUp : FnScope ["samples", "time", "whole", "before", "after", "step", "apart"] ["samples", "time"] (defScope sUp) := ⟨rfl, rfl, rfl, by decide +kernel, rfl, by decide +kernel, by decide +kernel⟩
theorem ok_up {f : Addr} {fd : FuncData} (F : Fun K "counted_up_to" "counted_up_to" sUp f fd) (mLen : mg "len" = none) (mMin : mg "min" = none) (mMax : mg "max" = none)
    (DN : Df P w K mg base "neighbours" 1 ["samples"] spNbr) (DB : Df P w K mg base "counted_between" 2 ["before", "after"] spBet) : FnOk P w K mg base CX0 3 f fd ["samples", "time"] spUpI := by
  refine F.ok scUp (fun vs H Q E h => ?_) (fun cdv A outer s H vs Q E hr h => ?_)
  · rcases h with ⟨d, s, t, rfl, _⟩ | ⟨d, s, t, rfl, _⟩
    · rfl
    · rfl
  · have hr1 : Room 1 _ := hr.mono (by decide)
    refine ⟨_, pss_cons (ps_if (PW.pt (pw_or (pt_cmpR op_eq (pe_callB call_lenD (by rfl) mLen PySem.boot_len (pa_cons (pv 0) pa_nil)) pe_int (nomark _))
          (pw_or (pt_cmpR op_lt (pv 1) (pe_callB (cr_minD rfl) (by rfl) mMin (by decide +kernel) (pa_cons (pv 0) pa_nil)) (nomark _))
          (pw_or1 (pt_cmpR op_gt (pv 1) (pe_callB (cr_maxD rfl) (by rfl) mMax (by decide +kernel) (pa_cons (pv 0) pa_nil)) (nomark _))))))
        (pss_one (ps_ret pe_non)) pss_nil)
      (pss_cons (ps_set (i := 2) scUp.nd rfl (Or.inl rfl) pe_int)
      (pss_cons (ps_for PassesOwn.never rfl (pi_list (pe_df DN hr1 rfl (pa_cons (pv 0) pa_nil)))
          (pg_tup (by rfl) (pgs_cons (pg_name (i := 3) scUp.nd rfl (Or.inl rfl)) (pgs_cons (pg_name (i := 4) scUp.nd rfl (Or.inl rfl)) pgs_nil)))
        (pss_cons (ps_set (i := 5) scUp.nd rfl (Or.inl rfl) (pe_df DB hr rfl (pa_cons (pv 3) (pa_cons (pv 4) pa_nil))))
        (pss_cons (ps_if (pt_cmpR op_lt (pv 1) (pe_ix ix_tup (pv 4) pe_int (fun _ _ => rfl)) (nomark _))
            (pss_cons (ps_set (i := 6) scUp.nd rfl (Or.inl rfl) (pe_op op_sub (pe_ix ix_tup (pv 4) pe_int (fun _ _ => rfl)) (pe_ix ix_tup (pv 3) pe_int (fun _ _ => rfl))))
            (pss_one (ps_ret (pe_tup (pa_cons (pe_op op_add (pe_op op_mul (pv 2) (pv 6)) (pe_op op_mul (pv 5) (pe_op op_sub (pv 1) (pe_ix ix_tup (pv 3) pe_int (fun _ _ => rfl))))) (pa_cons (pv 6) pa_nil))))))
            pss_nil)
        (pss_one (ps_set (i := 2) scUp.nd rfl (Or.inl rfl) (pe_op op_add (pv 2) (pv 5)))))))
      (pss_one (ps_ret (pe_tup (pa_cons (pv 2) (pa_cons pe_int pa_nil))))))), ?_⟩
    rcases h with ⟨d, sr, t, rfl, DS, G, kN, kS⟩ | ⟨d, sr, t, rfl, ⟨ps, hd, hp⟩, G, ht, k⟩
    rotate_left
    · have hl : ps.length = sr.length := by have := hp.length_eq; simpa using this
      refine ⟨_, rfl, d, _, rfl, hd, rfl, _, rfl, ?_⟩
      by_cases c0 : sr = []
      · subst c0
        have e0 : ps = [] := by simpa using hl
        subst e0
        refine if_true_of (decide_eq_true rfl) ?_
        refine iteT ?_
        exact k H (Same.refl H)
      · have n0 : 0 < sr.length := List.length_pos_iff.mpr c0
        refine if_false_of (decide_eq_false (fun z => ?_)) ?_
        · have z' := V.int.inj z
          rw [List.length_map] at z'
          omega
        refine ⟨_, rfl, _, rfl, d, ps, rfl, hd, by omega, fun q hq hle => ?_⟩
        obtain ⟨xm, hxm, em⟩ := List.mem_map.mp (hp.mem_iff.mp hq)
        have emx : q.1 = (xm.1 : Int) := by rw [← em]
        refine ⟨_, _, rfl, rfl, _, rfl, ?_⟩
        refine if_true_of (decide_eq_true (by rw [emx]; omega)) ?_
        refine iteT ?_
        exact k H (Same.refl H)
    obtain ⟨ps, hd, hp⟩ := id DS
    have hl : ps.length = sr.length := by have := hp.length_eq; simpa using this
    refine ⟨_, rfl, d, _, rfl, hd, rfl, _, rfl, ?_⟩
    by_cases c0 : sr = []
    · subst c0
      have e0 : ps = [] := by simpa using hl
      subst e0
      refine if_true_of (decide_eq_true rfl) ?_
      refine iteT ?_
      exact kN rfl H (Same.refl H)
    · have n0 : 0 < sr.length := List.length_pos_iff.mpr c0
      refine if_false_of (decide_eq_false (fun z => ?_)) ?_
      · have z' := V.int.inj z
        rw [List.length_map] at z'
        omega
      obtain ⟨x0, hx0⟩ : ∃ x, sr[0]? = some x := ⟨_, List.getElem?_eq_getElem n0⟩
      have hh0 : sr.head? = some x0 := by rw [List.head?_eq_getElem?]; exact hx0
      have inS : ∀ q, q ∈ ps → ∃ x, x ∈ sr ∧ cst x = q := fun q hq => List.mem_map.mp (hp.mem_iff.mp hq)
      have inP : ∀ x, x ∈ sr → cst x ∈ ps := fun x hx => hp.mem_iff.mpr (List.mem_map.mpr ⟨x, hx, rfl⟩)
      -- time < min(samples)
      refine ⟨_, rfl, _, rfl, d, ps, rfl, hd, by omega, fun q hq hle => ?_⟩
      obtain ⟨xm, hxm, em⟩ := inS q hq
      have emx : q.1 = (xm.1 : Int) := by rw [← em]
      have e0 : (xm.1 : Int) = x0.1 := by
        have a := hle _ (inP x0 (List.mem_of_getElem? hx0))
        obtain ⟨j, hj⟩ := List.mem_iff_getElem?.mp hxm
        rcases Nat.eq_zero_or_pos j with z | z
        · rw [z, hx0] at hj
          rw [Option.some.inj hj]
        · have b := rise_at G.rise z hx0 hj
          rw [emx] at a
          show (xm.1 : Int) = x0.1
          have a' : (xm.1 : Int) ≤ (x0.1 : Int) := a
          omega
      refine ⟨_, _, rfl, rfl, _, rfl, ?_⟩
      by_cases c1 : t < x0.1
      · refine if_true_of (decide_eq_true (by rw [emx, e0]; omega)) ?_
        refine iteT ?_
        exact kN ((cup_known G.rise).mpr (.inr (.inl ⟨x0, hh0, c1⟩))) H (Same.refl H)
      · refine if_false_of (decide_eq_false (by rw [emx, e0]; omega)) ?_
        -- time > max(samples)
        refine ⟨_, rfl, _, rfl, d, ps, rfl, hd, by omega, fun q2 hq2 hle2 => ?_⟩
        obtain ⟨xM, hxM, eM⟩ := inS q2 hq2
        have eMx : q2.1 = (xM.1 : Int) := by rw [← eM]
        obtain ⟨xl, hxl⟩ : ∃ x, sr[sr.length - 1]? = some x := ⟨_, List.getElem?_eq_getElem (by omega)⟩
        have hlast : sr.getLast? = some xl := by rw [List.getLast?_eq_getElem?]; exact hxl
        have e1 : (xM.1 : Int) = xl.1 := by
          have a : (xl.1 : Int) ≤ q2.1 := hle2 _ (inP xl (List.mem_of_getElem? hxl))
          obtain ⟨j, hj⟩ := List.mem_iff_getElem?.mp hxM
          have jl := (List.getElem?_eq_some_iff.mp hj).1
          rcases Nat.eq_or_lt_of_le (show j ≤ sr.length - 1 by omega) with z | z
          · rw [z, hxl] at hj
            rw [Option.some.inj hj]
          · have b := rise_at G.rise z hj hxl
            omega
        refine ⟨_, _, rfl, rfl, _, rfl, ?_⟩
        by_cases c2 : xl.1 < t
        · refine if_true_of (decide_eq_true (by rw [eMx, e1]; omega)) ?_
          exact kN ((cup_known G.rise).mpr (.inr (.inr ⟨xl, hlast, c2⟩))) H (Same.refl H)
        · refine if_false_of (decide_eq_false (by rw [eMx, e1]; omega)) ?_
          -- the loop
          refine ⟨_, rfl, d, sr, rfl, DS, G, fun H1 p s1 pn N => ?_⟩
          obtain ⟨qs, hqs, lqs, hq3⟩ := id N
          refine ⟨p, rfl, ⟨_, SqL.of hqs⟩, for_list (K := K) (a := p) (xs := qs.map V.ref) (fun i σ H' => ∃ (W : Nat) (v1 v2 v3 : Option V), σ = [some (.ref d), some (.int t), some (.int W), v1, v2, v3, none] ∧ Same H1 H' ∧ cup W (sr.drop i) t = cup 0 sr t ∧ ∀ x, sr[i]? = some x → x.1 ≤ t)
            ⟨0, none, none, none, rfl, Same.refl _, rfl, fun x hx => ?_⟩ (fun i σ H' _ ⟨_, _, _, _, _, s2, _⟩ => s2.seq (SqL.of hqs)) ?_ ?_⟩
          · rw [hx0] at hx
            have := Option.some.inj hx
            subst this
            omega
          · rintro i v σ H2 hi ⟨W, v1, v2, v3, rfl, s2, hc, hle⟩
            rw [List.getElem?_map] at hi
            cases eq : qs[i]? with
            | none => rw [eq] at hi; cases hi
            | some qa =>
              rw [eq] at hi
              have ev : V.ref qa = v := Option.some.inj hi
              subst ev
              obtain ⟨ta, ua, x, y, hx, hy, hqt, hta, hua⟩ := hq3 i qa eq
              have hxy := rise_at G.rise (Nat.lt_succ_self i) hx hy
              have hxt := hle x hx
              have bx := G.time x (List.mem_of_getElem? hx)
              have by' := G.time y (List.mem_of_getElem? hy)
              have bv := step_le (a := x.2) (G.val y (List.mem_of_getElem? hy))
              obtain ⟨l, dl, dl2⟩ := drop_cons2 hx hy
              -- before, after
              refine ⟨qa, _, rfl, SqT.of (s2 _ _ hqt), rfl, _, _, rfl, _, _, rfl, rfl, ?_⟩
              -- step
              refine ⟨_, rfl, _, rfl, ta, ua, x, y, rfl, s2 _ _ hta, s2 _ _ hua, ?_⟩
              -- time < after[0]
              refine ⟨_, rfl, _, rfl, ua, _, _, _, rfl, rfl, SqT.of (s2 _ _ hua), at0, _, _, rfl, rfl, _, rfl, ?_⟩
              by_cases c3 : t < y.1
              · refine if_true_of (decide_eq_true (by omega)) ?_
                -- apart
                refine ⟨_, rfl, ua, _, _, _, rfl, rfl, SqT.of (s2 _ _ hua), at0, _, rfl, ta, _, _, _, rfl, rfl, SqT.of (s2 _ _ hta), at0, _, _, rfl, rfl, ?_⟩
                refine ⟨_, rfl, _, rfl, _, _, rfl, rfl, .inr ⟨by omega, by omega⟩, _, rfl, _, rfl, _, rfl, ta, _, _, _, rfl, rfl, SqT.of (s2 _ _ hta), at0, _, _, rfl, rfl, _, _, rfl, rfl, .inl ⟨by omega, by omega⟩, _, _, rfl, rfl, _, rfl, (by show 2 ≤ sizeLine; decide), fun z hz => ?_⟩
                have e2 : cup 0 sr t = some (W * (y.1 - x.1) + Sq37.step x.2 y.2 * (t - x.1), y.1 - x.1) := by
                  rw [← hc, dl]
                  unfold cup
                  rw [if_neg (by omega), if_pos c3]
                refine kS _ _ e2 _ z (s1.trans (s2.trans (same_upd hz))) (Eq.trans upd_same ?_)
                rw [Int.natCast_add, Int.natCast_mul, Int.natCast_mul, Int.natCast_sub (Nat.le_of_lt hxy), Int.natCast_sub hxt]
              · refine if_false_of (decide_eq_false (by omega)) ?_
                refine ⟨_, rfl, _, rfl, _, _, rfl, rfl, ?_⟩
                refine ⟨W + Sq37.step x.2 y.2, some (.ref ta), some (.ref ua), some (.int (Sq37.step x.2 y.2 : Nat)), ?_, s2, ?_, fun z hz => ?_⟩
                · rw [Int.natCast_add]
                  rfl
                · rw [← hc, dl, dl2]
                  conv => rhs; unfold cup
                  rw [if_neg (by omega), if_neg c3]
                · rw [hy] at hz
                  have := Option.some.inj hz
                  subst this
                  omega
          · rintro σ H2 ⟨W, v1, v2, v3, rfl, s2, hc, hle⟩
            rw [List.length_map, lqs] at hc hle
            have hlt := hle xl hxl
            have et : t = xl.1 := by omega
            have hdr : sr.drop (sr.length - 1) = [xl] := by
              obtain ⟨h1, e1⟩ := List.getElem?_eq_some_iff.mp hxl
              rw [List.drop_eq_getElem_cons h1, e1, List.drop_eq_nil_of_le (by omega)]
            have e2 : cup 0 sr t = some (W, 1) := by
              rw [← hc, hdr]
              unfold cup
              rw [if_pos et]
            refine ⟨_, rfl, (by show 2 ≤ sizeLine; decide), fun z hz => ?_⟩
            exact kS _ _ e2 _ z (s1.trans (s2.trans (same_upd hz))) upd_same
end
end Ac

set_option Elab.async false
set_option linter.all false
set_option maxRecDepth 100000
set_option maxHeartbeats 2000000
namespace Ac
open PySem PySem.Spec PyProof.Rows L2
def spTot : Sp := fun vs H Q _ => ∃ (d : Addr) (s : Sq37.Series) (a b : Nat), vs = [.ref d, .int a, .int b] ∧ DictS H d s ∧ Good s ∧ a ≤ b ∧ FrAt H Q (tot s a b)
/-- also from a time below 0 -/
def spTotI : Sp := fun vs H Q E => spTot vs H Q E ∨ ∃ (d : Addr) (s : Sq37.Series) (a : Int) (b : Nat), vs = [.ref d, .int a, .int b] ∧ DictS H d s ∧ Good s ∧ a < 0 ∧ ∀ H', Same H H' → Q .non H'
/-- lowest_terms(upper, lower) -/
def spLow : Sp := fun vs H Q _ => ∃ (u l : Nat), vs = [.int u, .int l] ∧ 0 < l ∧ l < 2 ^ 9000 ∧
  ∀ (H' : Hp) (p : Addr), Same H H' → H p = none → H' p = some (.lst [.int (Sq37.frac u l).n, .int (Sq37.frac u l).d]) → Q (.ref p) H'
section
variable {P : Program} {w : World} {K : PySem.W.Frag} {mg : Str → Option Value} {base : Heap}
theorem scTot : FnScope ["samples", "a", "b", "to_a", "to_b"] ["samples", "a", "b"] (defScope sTot) := ⟨rfl, rfl, rfl, by decide +kernel, rfl, by decide +kernel, by decide +kernel⟩
theorem ok_tot {f : Addr} {fd : FuncData} (F : Fun K "total_between" "total_between" sTot f fd) (DU : Df P w K mg base "counted_up_to" 3 ["samples", "time"] spUpI) : FnOk P w K mg base CX0 4 f fd ["samples", "a", "b"] spTotI := by
  refine F.ok scTot (fun vs H Q E h => ?_) (fun cdv A outer s H vs Q E hr h => ?_)
  · rcases h with ⟨d, s, a, b, rfl, _⟩ | ⟨d, s, a, b, rfl, _⟩
    · rfl
    · rfl
  · refine ⟨_, pss_cons (ps_set (i := 3) scTot.nd rfl (Or.inl rfl) (pe_df DU hr rfl (pa_cons (pv 0) (pa_cons (pv 1) pa_nil))))
      (pss_cons (ps_set (i := 4) scTot.nd rfl (Or.inl rfl) (pe_df DU hr rfl (pa_cons (pv 0) (pa_cons (pv 2) pa_nil))))
      (pss_cons (ps_if (PW.pt (pw_or (pt_cmpR op_isN (pv 3) pe_non (nomark _)) (pw_or1 (pt_cmpR op_isN (pv 4) pe_non (nomark _))))) (pss_one (ps_ret pe_non)) pss_nil)
      (pss_one (ps_ret (pe_tup (pa_cons (pe_op op_sub (pe_op op_mul (pe_ix ix_tup (pv 4) pe_int (fun _ _ => rfl)) (pe_ix ix_tup (pv 3) pe_int (fun _ _ => rfl))) (pe_op op_mul (pe_ix ix_tup (pv 3) pe_int (fun _ _ => rfl)) (pe_ix ix_tup (pv 4) pe_int (fun _ _ => rfl))))
        (pa_cons (pe_op op_mul (pe_ix ix_tup (pv 3) pe_int (fun _ _ => rfl)) (pe_ix ix_tup (pv 4) pe_int (fun _ _ => rfl))) pa_nil))))))), ?_⟩
    rcases h with ⟨d, sr, a, b, rfl, DS, G, hab, kN, kS⟩ | ⟨d, sr, a, b, rfl, DS, G, ha, k⟩
    rotate_left
    · refine ⟨_, rfl, _, rfl, Or.inr ⟨d, sr, a, rfl, DS, G, ha, fun H1 s1 => ?_⟩⟩
      refine ⟨_, rfl, _, rfl, Or.inl ⟨d, sr, b, rfl, DS.same s1, G, fun eb H2 s2 => ?_, fun u2 l2 eb H2 p2 s2 hp2 => ?_⟩⟩
      all_goals
        refine ⟨_, rfl, rfl, _, rfl, ?_⟩
        refine if_true_of (decide_eq_true rfl) ?_
        refine iteT ?_
        exact k H2 (s1.trans s2)
    refine ⟨_, rfl, _, rfl, Or.inl ⟨d, sr, a, rfl, DS, G, fun ea H1 s1 => ?_, fun u l ea H1 p s1 hp => ?_⟩⟩
    · refine ⟨_, rfl, _, rfl, Or.inl ⟨d, sr, b, rfl, DS.same s1, G, fun eb H2 s2 => ?_, fun u2 l2 eb H2 p2 s2 hp2 => ?_⟩⟩
      all_goals
        refine ⟨_, rfl, rfl, _, rfl, ?_⟩
        refine if_true_of (decide_eq_true rfl) ?_
        refine iteT ?_
        refine kN ?_ H2 (s1.trans s2)
        unfold tot
        rw [ea]
    · refine ⟨_, rfl, _, rfl, Or.inl ⟨d, sr, b, rfl, DS.same s1, G, fun eb H2 s2 => ?_, fun u2 l2 eb H2 p2 s2 hp2 => ?_⟩⟩
      · refine ⟨_, rfl, rfl, _, rfl, ?_⟩
        refine if_false_of (decide_eq_false (by intro z; cases z)) ?_
        refine ⟨_, rfl, rfl, _, rfl, ?_⟩
        refine if_true_of (decide_eq_true rfl) ?_
        refine kN ?_ H2 (s1.trans s2)
        unfold tot
        rw [ea, eb]
      · refine ⟨_, rfl, rfl, _, rfl, ?_⟩
        refine if_false_of (decide_eq_false (by intro z; cases z)) ?_
        refine ⟨_, rfl, rfl, _, rfl, ?_⟩
        refine if_false_of (decide_eq_false (by intro z; cases z)) ?_
        have h1 := SqT.of (K := K) (s2 _ _ hp)
        have h2 := SqT.of (K := K) hp2
        obtain ⟨b1, b2⟩ := cup_le ea G.time G.val
        obtain ⟨c1, c2⟩ := cup_le eb G.time G.val
        have em := cup_mono hab ea eb
        refine ⟨_, rfl, p2, _, _, _, rfl, rfl, h2, at0, _, rfl, p, _, _, _, rfl, rfl, h1, at1, _, _, rfl, rfl, .inr ⟨by omega, by omega⟩,
          _, rfl, p, _, _, _, rfl, rfl, h1, at0, _, rfl, p2, _, _, _, rfl, rfl, h2, at1, _, _, rfl, rfl, .inr ⟨by omega, by omega⟩, _, _, rfl, rfl,
          _, rfl, p, _, _, _, rfl, rfl, h1, at1, _, rfl, p2, _, _, _, rfl, rfl, h2, at1, _, _, rfl, rfl, .inr ⟨by omega, by omega⟩, (by show 2 ≤ sizeLine; decide), fun z hz => ?_⟩
        have et : tot sr a b = some (u2 * l - u * l2, l * l2) := by
          unfold tot
          rw [ea, eb]
        refine kS _ _ et _ z (s1.trans (s2.trans (same_upd hz))) (Eq.trans upd_same ?_)
        rw [Int.natCast_sub em, Int.natCast_mul, Int.natCast_mul, Int.natCast_mul]
theorem scLow : FnScope ["upper", "lower", "common", "rest", "left"] ["upper", "lower"] (defScope sLow) := ⟨rfl, rfl, rfl, by decide +kernel, rfl, by decide +kernel, by decide +kernel⟩
theorem ok_low {f : Addr} {fd : FuncData} (F : Fun K "lowest_terms" "lowest_terms" sLow f fd) : FnOk P w K mg base CX0 1 f fd ["upper", "lower"] spLow := by
  refine F.ok scLow (fun vs H Q E h => ?_) (fun cdv A outer s H vs Q E hr h => ?_)
  · obtain ⟨u, l, rfl, _⟩ := h
    rfl
  · obtain ⟨u, l, rfl, hl, hb, k⟩ := h
    refine ⟨_, pss_cons (ps_set (i := 2) scLow.nd rfl (Or.inl rfl) (pv 0))
      (pss_cons (ps_set (i := 3) scLow.nd rfl (Or.inl rfl) (pv 1))
      (pss_cons (ps_while PassesOwn.never (pt_cmpR op_gt (pv 3) pe_int (nomark _))
        (pss_cons (ps_set (i := 4) scLow.nd rfl (Or.inl rfl) (pe_op op_modN (pv 2) (pv 3)))
        (pss_cons (ps_set (i := 2) scLow.nd rfl (Or.inl rfl) (pv 3))
        (pss_one (ps_set (i := 3) scLow.nd rfl (Or.inl rfl) (pv 4))))))
      (pss_one (ps_ret (pe_lst (pa_cons (pe_op op_fdivW (pv 0) (pv 2)) (pa_cons (pe_op op_fdivW (pv 1) (pv 2)) pa_nil))))))), ?_⟩
    refine ⟨_, rfl, _, rfl, ?_⟩
    refine while_by (fun σ H' => ∃ (c r : Nat) (v : Option V), σ = [some (.int u), some (.int l), some (.int c), some (.int r), v] ∧ H' = H ∧ Nat.gcd c r = Nat.gcd u l)
      (fun σ _ => match σ with | [_, _, _, some (.int r), _] => r.toNat | _ => 0) ⟨u, l, none, rfl, rfl, rfl⟩ ?_ ?_
    · rintro σ H' ⟨c, r, v, rfl, rfl, hg⟩
      refine ⟨_, rfl, _, _, rfl, rfl, _, rfl, ?_⟩
      by_cases c0 : 0 < r
      · refine if_true_of (decide_eq_true (by omega)) ?_
        refine ⟨_, rfl, _, rfl, _, _, rfl, rfl, (by omega : (r : Int) ≠ 0), _, rfl, _, rfl, ?_⟩
        have em : (c : Int).fmod (r : Int) = ((c % r : Nat) : Int) := by
          rw [Int.fmod_eq_emod_of_nonneg _ (by omega)]
          rfl
        refine ⟨⟨r, c % r, some (.int ((c : Int).fmod (r : Int))), ?_, rfl, ?_⟩, ?_⟩
        · show [some (V.int u), some (V.int l), some (V.int r), some (V.int ((c : Int).fmod (r : Int))), some (V.int ((c : Int).fmod (r : Int)))] = _
          rw [em]
        · rw [← hg, Nat.gcd_comm c r, Nat.gcd_rec r c, Nat.gcd_comm]
        · show ((c : Int).fmod (r : Int)).toNat < (r : Int).toNat
          rw [em]
          have := Nat.mod_lt c c0
          omega
      · refine if_false_of (decide_eq_false (by omega)) ?_
        have r0 : r = 0 := by omega
        subst r0
        rw [Nat.gcd_zero_right] at hg
        have gp : 0 < Nat.gcd u l := Nat.gcd_pos_of_pos_right u hl
        have gl : Nat.gcd u l ≤ l := Nat.gcd_le_right u hl
        have wd : ∀ i : Int, CDivW i (c : Int) := fun i => wide_div (by omega) (b := 9000) (by rw [Int.natAbs_natCast]; omega) (by decide) (by decide)
        refine ⟨_, rfl, _, rfl, _, _, rfl, rfl, wd _, _, rfl, _, rfl, _, _, rfl, rfl, wd _, (by show 2 ≤ sizeLine; decide), fun p hp => ?_⟩
        refine k _ p (same_upd hp) hp (Eq.trans upd_same ?_)
        rw [frac_eq hl, hg]
        rfl
    · rintro σ H' Q1 Q2 hq ⟨a, b, c, d, e, f, g, h, i⟩
      exact ⟨a, b, c, d, e, f, g, h, hq _ _ i⟩
end
end Ac

set_option Elab.async false
set_option linter.all false
set_option maxRecDepth 100000
set_option maxHeartbeats 2000000
/-! The house in the heap; the calls' promises -/
namespace Ac
open PySem PySem.Spec PyProof.Rows L2
abbrev fld (L : Addr) : List (Str × V) := [(("series" : Str), V.ref L)]
theorem lk_here {k : Str} {v : V} {r : List (Str × V)} : List.lookup k ((k, v) :: r) = some v := by
  have e : (k == k) = true := beq_self_eq_true k
  simp only [List.lookup, e]
theorem put_here {f : Str} {v x : V} {r : List (Str × V)} : putF f v ((f, x) :: r) = (f, v) :: r := if_pos rfl
/-- the house h stands at a -/
structure HouseAt (C : Addr) (H : Hp) (a : Addr) (h : Sq37.House) (dx L : Addr) (ds : List Addr) : Prop where
  ob : H a = some (.ins C dx (fld L))
  ls : H L = some (.lst (ds.map V.ref))
  nd : ds.Nodup
  len : ds.length = h.length
  few : h.length ≤ 8
  at_ : ∀ (i : Nat) (s : Sq37.Series), h[i]? = some s → ∃ d, ds[i]? = some d ∧ DictS H d s ∧ Good s
def IsHouse (C : Addr) (H : Hp) (a : Addr) (h : Sq37.House) : Prop := ∃ dx L ds, HouseAt C H a h dx L ds
theorem HouseAt.same {C a dx L : Addr} {H H' : Hp} {h : Sq37.House} {ds : List Addr} (x : HouseAt C H a h dx L ds) (e : Same H H') : HouseAt C H' a h dx L ds :=
  ⟨e _ _ x.ob, e _ _ x.ls, x.nd, x.len, x.few, fun i s hs => let ⟨d, h1, h2, h3⟩ := x.at_ i s hs; ⟨d, h1, h2.same e, h3⟩⟩
theorem IsHouse.same {C a : Addr} {H H' : Hp} {h : Sq37.House} (x : IsHouse C H a h) (e : Same H H') : IsHouse C H' a h := let ⟨dx, L, ds, x⟩ := x; ⟨dx, L, ds, x.same e⟩
/-- what no call changes -/
def still : HO → Bool
  | .dK _ => false
  | .ins _ _ _ => false
  | _ => true
def Keeps (H H' : Hp) : Prop := ∀ b o, H b = some o → still o = true → H' b = some o
theorem Keeps.of {H H' : Hp} (e : Same H H') : Keeps H H' := fun b o h _ => e b o h
theorem Keeps.refl (H : Hp) : Keeps H H := fun _ _ h _ => h
theorem Keeps.trans {H H1 H2 : Hp} (a : Keeps H H1) (b : Keeps H1 H2) : Keeps H H2 := fun c o h s => b c o (a c o h s) s
theorem Keeps.seq {K : PySem.W.Frag} {H H' : Hp} {a : Addr} {xs : List V} (e : Keeps H H') (h : SqL K H a xs) : SqL K H' a xs := by
  rcases h with (h | ⟨o, h⟩) | h
  · exact .inl (.inl (e _ _ h rfl))
  · exact .inl (.inr ⟨o, e _ _ h rfl⟩)
  · exact .inr h
/-- an answer as it is told -/
def outV (o : Sq37.Out) : List V := (o.value :: o.out).map V.int
/-- the house's list is another than b -/
def Off (H : Hp) (a b : Addr) : Prop := ∀ C dx L, H a = some (.ins C dx (fld L)) → L ≠ b
theorem off_ob {H H' : Hp} {a b : Addr} {o : HO} (h1 : H a = some o) (h2 : H' a = some o) (f : Off H a b) : Off H' a b := fun C dx L e => f C dx L (h1.trans (h2.symm.trans e))
/-- what a call promises -/
def Ans (C : Addr) (H : Hp) (a : Addr) (h : Sq37.House) (c : Sq37.Call) (Q : VK) : Prop :=
  ∀ (H' : Hp) (p : Addr), IsHouse C H' a (h.step c).1 → Keeps H H' → (∀ b o, H b = some o → Off H a b → Off H' a b) → H p = none → H' p = some (.lst (outV (h.step c).2)) → Q (.ref p) H'
theorem Ans.says {C : Addr} {H H1 : Hp} {a : Addr} {h : Sq37.House} {c : Sq37.Call} {Q : VK} {o : Sq37.Out} {p : Addr} {xs : List V} (k : Ans C H a h c Q) (e : h.step c = (h, o)) (x : IsHouse C H a h) (s : Same H H1) (hn : H p = none) (hp : H1 p = some (.lst xs)) (hx : xs = outV o) : Q (.ref p) H1 := by
  refine k H1 p ?_ (Keeps.of s) (fun b o _ f => let ⟨_, _, _, X⟩ := x; off_ob X.ob (s _ _ X.ob) f) hn ?_
  · rw [e]
    exact x.same s
  · rw [e, hp, hx]
theorem upd_free {H : Hp} {d p : Addr} {o : HO} (h : (upd H d o) p = none) : H p = none := by
  rw [upd_ne (fun z => by rw [z, upd_same] at h; cases h)] at h
  exact h
/-- no such series -/
theorem at_none {h : Sq37.House} {s : Nat} {f : Sq37.Series → Sq37.House × Sq37.Out} (e : h.length ≤ s) : h.at_ s f = (h, Sq37.says (-2)) := by
  unfold Sq37.House.at_
  rw [List.getElem?_eq_none e]
theorem at_some {h : Sq37.House} {s : Nat} {f : Sq37.Series → Sq37.House × Sq37.Out} {l : Sq37.Series} (e : h[s]? = some l) : h.at_ s f = f l := by
  unfold Sq37.House.at_
  rw [e]
/-- what the top has written of the class -/
structure TxtH (K : PySem.W.Frag) (C : Addr) : Prop where
  cl : Cls K C
  nS : NoAttr K C "series"
def spLacks (C : Addr) : Sp := fun vs H Q _ => ∃ (a : Addr) (h : Sq37.House) (s : Nat), vs = [.ref a, .int s] ∧ IsHouse C H a h ∧ Q (.bl (decide (h.length ≤ s))) H
def spTotalC (C : Addr) : Sp := fun vs H Q _ => ∃ (a : Addr) (h : Sq37.House) (s x y : Nat), vs = [.ref a, .int s, .int x, .int y] ∧ IsHouse C H a h ∧ Ans C H a h (.total s x y) Q
def spRateC (C : Addr) : Sp := fun vs H Q _ => ∃ (a : Addr) (h : Sq37.House) (s x y : Nat), vs = [.ref a, .int s, .int x, .int y] ∧ IsHouse C H a h ∧ Ans C H a h (.rate s x y) Q
def spAnewC (C : Addr) : Sp := fun vs H Q _ => ∃ (a : Addr) (h : Sq37.House) (s x y : Nat), vs = [.ref a, .int s, .int x, .int y] ∧ IsHouse C H a h ∧ Ans C H a h (.anew s x y) Q
def spBeginC (C : Addr) : Sp := fun vs H Q _ => ∃ (a : Addr) (h : Sq37.House) (n : Nat), vs = [.ref a, .int n] ∧ IsHouse C H a h ∧ Ans C H a h (.begin_ n) Q
def spSampleC (C : Addr) : Sp := fun vs H Q _ => ∃ (a : Addr) (h : Sq37.House) (s t v : Nat), vs = [.ref a, .int s, .int t, .int v] ∧ IsHouse C H a h ∧ Ans C H a h (.sample s t v) Q
def spOutC (C : Addr) : Sp := fun vs H Q _ => ∃ (a : Addr) (h : Sq37.House) (s t : Nat), vs = [.ref a, .int s, .int t] ∧ IsHouse C H a h ∧ Ans C H a h (.out s t) Q
end Ac

set_option Elab.async false
set_option linter.all false
set_option maxRecDepth 100000
set_option maxHeartbeats 2000000
/-! A series and its dict: asked, entered, taken out -/
namespace Ac
open PySem PySem.Spec PyProof.Rows L2
theorem val_mem : ∀ {ps : List (Int × Int)} {q : Int × Int}, (∀ a ∈ ps, ∀ b ∈ ps, a.1 = b.1 → a = b) → q ∈ ps → valV (ps.map entK) (Sum.inl q.1 : L2.Key) = some (V.int q.2)
  | [], q, _, h => by cases h
  | p :: ps, q, hu, h => by
    by_cases e : p.1 = q.1
    · have e2 := hu p (List.mem_cons_self ..) q h e
      rw [e2]
      exact valV_pos (p := entK q) rfl
    · have h' : q ∈ ps := by
        rcases List.mem_cons.mp h with z | z
        · exact absurd (by rw [z]) e
        · exact z
      rw [List.map_cons, valV_neg (p := entK p) (fun z => e (Sum.inl.inj z))]
      exact val_mem (fun a ha b hb => hu a (List.mem_cons_of_mem _ ha) b (List.mem_cons_of_mem _ hb)) h'
theorem val_no : ∀ {ps : List (Int × Int)} {z : Int}, (∀ a ∈ ps, a.1 ≠ z) → valV (ps.map entK) (Sum.inl z : L2.Key) = none
  | [], z, _ => rfl
  | p :: ps, z, h => by
    rw [List.map_cons, valV_neg (p := entK p) (fun q => h p (List.mem_cons_self ..) (Sum.inl.inj q))]
    exact val_no fun a ha => h a (List.mem_cons_of_mem _ ha)
theorem rise_inj {s : Sq37.Series} (h : Rise s) {x y : Nat × Nat} (hx : x ∈ s) (hy : y ∈ s) (e : x.1 = y.1) : x = y := by
  obtain ⟨i, hi⟩ := List.mem_iff_getElem?.mp hx
  obtain ⟨j, hj⟩ := List.mem_iff_getElem?.mp hy
  rcases Nat.lt_trichotomy i j with c | c | c
  · have := rise_at h c hi hj
    omega
  · rw [c, hj] at hi
    exact (Option.some.inj hi).symm
  · have := rise_at h c hj hi
    omega
theorem uniq_ps {s : Sq37.Series} {ps : List (Int × Int)} (h : Rise s) (hp : ps.Perm (s.map cst)) : ∀ a ∈ ps, ∀ b ∈ ps, a.1 = b.1 → a = b := by
  intro a ha b hb e
  obtain ⟨x, hx, rfl⟩ := List.mem_map.mp (hp.mem_iff.mp ha)
  obtain ⟨y, hy, rfl⟩ := List.mem_map.mp (hp.mem_iff.mp hb)
  have e' : (x.1 : Int) = (y.1 : Int) := e
  rw [rise_inj h hx hy (by omega)]
/-- samples[t], or that it isn't there -/
theorem val_find {s : Sq37.Series} {ps : List (Int × Int)} (h : Rise s) (hp : ps.Perm (s.map cst)) (t : Nat) : valV (ps.map entK) (Sum.inl (t : Int) : L2.Key) = (s.find? fun x => x.1 == t).map fun x => V.int (x.2 : Nat) := by
  cases e : s.find? fun x => x.1 == t with
  | none =>
    refine val_no fun a ha z => ?_
    obtain ⟨x, hx, rfl⟩ := List.mem_map.mp (hp.mem_iff.mp ha)
    have n := List.find?_eq_none.mp e x hx
    have z' : (x.1 : Int) = (t : Int) := z
    apply n
    rw [beq_iff_eq]
    omega
  | some x =>
    have hx := List.mem_of_find?_eq_some e
    have ht : x.1 = t := by
      have := List.find?_some e
      simpa using this
    have hm : cst x ∈ ps := hp.mem_iff.mpr (List.mem_map.mpr ⟨x, hx, rfl⟩)
    have q := val_mem (uniq_ps h hp) hm
    rw [← ht]
    exact q
theorem enter_perm {t v : Nat} : ∀ {s : Sq37.Series}, (∀ x ∈ s, x.1 ≠ t) → (Sq37.enter (t, v) s).Perm ((t, v) :: s)
  | [], _ => List.Perm.refl _
  | y :: l, h => by
    have hy := h y (List.mem_cons_self ..)
    unfold Sq37.enter
    by_cases c : t < y.1
    · rw [if_pos c]
    · rw [if_neg c, if_neg (fun z => hy z.symm)]
      exact ((enter_perm fun x hx => h x (List.mem_cons_of_mem _ hx)).cons y).trans (List.Perm.swap ..)
theorem enter_rise {t v : Nat} : ∀ {s : Sq37.Series}, Rise s → (∀ x ∈ s, x.1 ≠ t) → Rise (Sq37.enter (t, v) s)
  | [], _, _ => List.pairwise_singleton _ _
  | y :: l, hr, h => by
    have hy := h y (List.mem_cons_self ..)
    have hr' := List.pairwise_cons.mp hr
    unfold Sq37.enter
    by_cases c : t < y.1
    · rw [if_pos c]
      refine List.pairwise_cons.mpr ⟨fun z hz => ?_, hr⟩
      rcases List.mem_cons.mp hz with e | e
      · rw [e]; exact c
      · exact Nat.lt_trans c (hr'.1 z e)
    · rw [if_neg c, if_neg (fun z => hy z.symm)]
      have hn : ∀ x ∈ l, x.1 ≠ t := fun x hx => h x (List.mem_cons_of_mem _ hx)
      refine List.pairwise_cons.mpr ⟨fun z hz => ?_, enter_rise hr'.2 hn⟩
      rcases List.mem_cons.mp ((enter_perm hn).mem_iff.mp hz) with e | e
      · rw [e]
        show y.1 < t
        omega
      · exact hr'.1 z e
theorem good_enter {s : Sq37.Series} {t v : Nat} (G : Good s) (h : ∀ x ∈ s, x.1 ≠ t) (ht : t ≤ 1000000) (hv : v ≤ 1000000000) (hl : s.length < 60) : Good (Sq37.enter (t, v) s) := by
  refine ⟨enter_rise G.rise h, fun x hx => ?_, fun x hx => ?_, ?_⟩
  · rcases List.mem_cons.mp ((enter_perm h).mem_iff.mp hx) with e | e
    · rw [e]; exact ht
    · exact G.time x e
  · rcases List.mem_cons.mp ((enter_perm h).mem_iff.mp hx) with e | e
    · rw [e]; exact hv
    · exact G.val x e
  · rw [(enter_perm h).length_eq, List.length_cons]
    omega
theorem good_filter {s : Sq37.Series} {f : Nat × Nat → Bool} (G : Good s) : Good (s.filter f) :=
  ⟨G.rise.filter _, fun x hx => G.time x (List.mem_filter.mp hx).1, fun x hx => G.val x (List.mem_filter.mp hx).1, Nat.le_trans (List.length_filter_le ..) G.len⟩
theorem drop_ent (t : Nat) : ∀ ps : List (Int × Int), dropK (ps.map entK) (Sum.inl (t : Int) : L2.Key) = (ps.filter fun q => decide (q.1 ≠ (t : Int))).map entK
  | [] => rfl
  | p :: ps => by
    have ih := drop_ent t ps
    by_cases e : p.1 = (t : Int)
    · rw [List.map_cons, dropK_pos (p := entK p) (congrArg Sum.inl e), ih, List.filter_cons, if_neg (by simp [e])]
    · rw [List.map_cons, dropK_neg (p := entK p) (fun z => e (Sum.inl.inj z)), ih, List.filter_cons, if_pos (by simp [e])]
      rfl
theorem perm_drop {s : Sq37.Series} {ps : List (Int × Int)} (hp : ps.Perm (s.map cst)) (t : Nat) : (ps.filter fun q => decide (q.1 ≠ (t : Int))).Perm ((s.filter fun x => x.1 != t).map cst) := by
  have a := hp.filter fun q => decide (q.1 ≠ (t : Int))
  rw [List.filter_map] at a
  have e : ((fun q : Int × Int => decide (q.1 ≠ (t : Int))) ∘ cst) = fun x : Nat × Nat => x.1 != t := by
    funext x
    show decide ((x.1 : Int) ≠ (t : Int)) = (x.1 != t)
    by_cases c : x.1 = t
    · rw [c]; simp
    · have c2 : ¬ (x.1 : Int) = (t : Int) := by omega
      simp [c, c2]
  rw [e] at a
  exact a
theorem len_drop {t : Nat} : ∀ {s : Sq37.Series}, Rise s → (∃ x ∈ s, x.1 = t) → (s.filter fun x => x.1 != t).length = s.length - 1
  | [], _, h => by obtain ⟨x, hx, _⟩ := h; cases hx
  | y :: l, hr, h => by
    have hr' := List.pairwise_cons.mp hr
    by_cases c : y.1 = t
    · have e : (l.filter fun x => x.1 != t) = l := List.filter_eq_self.mpr fun x hx => by
        have := hr'.1 x hx
        simp
        omega
      rw [List.filter_cons, if_neg (by simp [c]), e, List.length_cons, Nat.add_sub_cancel]
    · have h' : ∃ x ∈ l, x.1 = t := by
        obtain ⟨x, hx, e⟩ := h
        rcases List.mem_cons.mp hx with z | z
        · rw [z] at e
          exact absurd e c
        · exact ⟨x, z, e⟩
      have ih := len_drop hr'.2 h'
      obtain ⟨x, hx, _⟩ := h'
      have hp : 0 < l.length := List.length_pos_of_mem hx
      rw [List.filter_cons, if_pos (by simp [c]), List.length_cons, ih, List.length_cons]
      omega
/-- one dict of the house changed -/
theorem HouseAt.put {C a dx L : Addr} {H : Hp} {h : Sq37.House} {ds : List Addr} (X : HouseAt C H a h dx L ds) {i : Nat} {d : Addr} {s : Sq37.Series} {ps : List (Int × Int)} (hd : ds[i]? = some d) {kv : HO} (hk : H d = some kv) (hkd : ∃ q, kv = .dK q) (hp : ps.Perm (s.map cst)) (G : Good s) :
    HouseAt C (upd H d (.dK (ps.map entK))) a (h.set i s) dx L ds := by
  obtain ⟨q, rfl⟩ := hkd
  have na : a ≠ d := fun z => by rw [← z, X.ob] at hk; cases hk
  have nL : L ≠ d := fun z => by rw [← z, X.ls] at hk; cases hk
  refine ⟨by rw [upd_ne na]; exact X.ob, by rw [upd_ne nL]; exact X.ls, X.nd, ?_, ?_, fun j s' hj => ?_⟩
  · show ds.length = (List.set h i s).length
    rw [List.length_set]
    exact X.len
  · show (List.set h i s).length ≤ 8
    rw [List.length_set]
    exact X.few
  · have hj' : (List.set h i s)[j]? = some s' := hj
    by_cases c : i = j
    · subst c
      have il : i < List.length h := by
        rw [← X.len]
        exact (List.getElem?_eq_some_iff.mp hd).1
      rw [List.getElem?_set_self il] at hj'
      cases hj'
      exact ⟨d, hd, ⟨ps, upd_same, hp⟩, G⟩
    · rw [List.getElem?_set_ne c] at hj'
      obtain ⟨e, h1, ⟨ps', h2, h2'⟩, h3⟩ := X.at_ j s' hj'
      have ne : e ≠ d := fun z => by
        rw [z] at h1
        exact c ((List.getElem?_inj (List.getElem?_eq_some_iff.mp hd).1 X.nd).mp (hd.trans h1.symm))
      exact ⟨e, h1, ⟨ps', by rw [upd_ne ne]; exact h2, h2'⟩, h3⟩
theorem keeps_dict {H : Hp} {d : Addr} {q : List (L2.Key × V)} {o : HO} (hk : H d = some (.dK q)) : Keeps H (upd H d o) := fun b u e s => by
  rw [upd_ne (fun z => by rw [z, hk] at e; cases e; cases s)]
  exact e
end Ac

set_option Elab.async false
set_option linter.all false
set_option maxRecDepth 100000
set_option maxHeartbeats 2000000
namespace Ac
open PySem PySem.Spec PyProof.Rows L2
abbrev sLacks : Stmt := top 7
abbrev sTotal : Stmt := top 20
abbrev sRate : Stmt := top 21
abbrev sAnew : Stmt := top 22
section
variable {P : Program} {w : World} {K : PySem.W.Frag} {mg : Str → Option Value} {base : Heap} {C : Addr}
theorem scLacks : FnScope ["house", "series"] ["house", "series"] (defScope sLacks) := ⟨rfl, rfl, rfl, by decide +kernel, rfl, by decide +kernel, by decide +kernel⟩
theorem ok_lacks {f : Addr} {fd : FuncData} (F : Fun K "lacks" "lacks" sLacks f fd) (T : TxtH K C) (mLen : mg "len" = none) : FnOk P w K mg base CX0 1 f fd ["house", "series"] (spLacks C) := by
  refine F.ok scLacks (fun vs H Q E h => ?_) (fun cdv A outer s H vs Q E hr h => ?_)
  · obtain ⟨a, h, s, rfl, _⟩ := h
    rfl
  · obtain ⟨a, h, s, rfl, ⟨dx, L, ds, X⟩, k⟩ := h
    refine ⟨_, pss_one (ps_ret (pe_cmpR op_ge (pv 1) (pe_callB call_len_seq (by rfl) mLen PySem.boot_len (pa_cons (pe_fld (pv 0) rfl) pa_nil)) (nomark _))), ?_⟩
    refine ⟨_, rfl, _, rfl, a, C, dx, _, _, rfl, X.ob, T.cl, T.nS, lk_here, L, _, rfl, .inl (SqL.of X.ls), _, _, rfl, rfl, ?_⟩
    have e : decide (((List.map V.ref ds).length : Int) ≤ (s : Int)) = decide (h.length ≤ s) := by
      apply decide_eq_decide.mpr
      rw [List.length_map, X.len]
      omega
    show Q (.bl (decide (((List.map V.ref ds).length : Int) ≤ (s : Int)))) H
    rw [e]
    exact k
/-- the series' dict: house.series[series] -/
theorem ser_at {H : Hp} {a dx L : Addr} {h : Sq37.House} {ds : List Addr} {s : Nat} (X : HouseAt C H a h dx L ds) (hs : s < h.length) : ∃ d sr, h[s]? = some sr ∧ ds[s]? = some d ∧ DictS H d sr ∧ Good sr ∧ atI (ds.map V.ref) (s : Int) = some (.ref d) := by
  obtain ⟨d, h1, h2, h3⟩ := X.at_ s h[s] (List.getElem?_eq_getElem hs)
  exact ⟨d, h[s], List.getElem?_eq_getElem hs, h1, h2, h3, atI_nat (by rw [List.getElem?_map, h1]; rfl)⟩
theorem scTotal : FnScope ["house", "series", "a", "b", "found"] ["house", "series", "a", "b"] (defScope sTotal) := ⟨rfl, rfl, rfl, by decide +kernel, rfl, by decide +kernel, by decide +kernel⟩
theorem ok_total {f : Addr} {fd : FuncData} (F : Fun K "total" "total" sTotal f fd) (T : TxtH K C) (DL : Df P w K mg base "lacks" 1 ["house", "series"] (spLacks C)) (DT : Df P w K mg base "total_between" 4 ["samples", "a", "b"] spTot) (DW : Df P w K mg base "lowest_terms" 1 ["upper", "lower"] spLow) :
    FnOk P w K mg base CX0 5 f fd ["house", "series", "a", "b"] (spTotalC C) := by
  refine F.ok scTotal (fun vs H Q E h => ?_) (fun cdv A outer s H vs Q E hr h => ?_)
  · obtain ⟨a, h, s, x, y, rfl, _⟩ := h
    rfl
  · obtain ⟨ha, h, sn, a, b, rfl, hh, k⟩ := h
    have hr1 : Room 1 _ := hr.mono (by decide)
    refine ⟨_, pss_cons (ps_if (pt_val (pe_df DL hr1 rfl (pa_cons (pv 0) (pa_cons (pv 1) pa_nil)))) (pss_one (ps_ret (pe_lst (pa_cons (pe_un un_neg pe_int) pa_nil)))) pss_nil)
      (pss_cons (ps_if (pt_cmpR op_lt (pv 3) (pv 2) (nomark _)) (pss_one (ps_ret (pe_lst (pa_cons (pe_un un_neg pe_int) pa_nil)))) pss_nil)
      (pss_cons (ps_set (i := 4) scTotal.nd rfl (Or.inl rfl) (pe_df DT hr rfl (pa_cons (pe_ix ix_list (pe_fld (pv 0) rfl) (pv 1) (fun _ _ => rfl)) (pa_cons (pv 2) (pa_cons (pv 3) pa_nil)))))
      (pss_cons (ps_if (pt_cmpR op_isN (pv 4) pe_non (nomark _)) (pss_one (ps_ret (pe_lst (pa_cons (pe_un un_neg pe_int) pa_nil)))) pss_nil)
      (pss_one (ps_ret (pe_df DW hr1 rfl (pa_cons (pe_ix ix_tup (pv 4) pe_int (fun _ _ => rfl)) (pa_cons (pe_ix ix_tup (pv 4) pe_int (fun _ _ => rfl)) pa_nil)))))))), ?_⟩
    refine ⟨_, rfl, _, rfl, ha, h, sn, rfl, hh, _, rfl, ?_⟩
    by_cases c0 : h.length ≤ sn
    · refine if_true_of (decide_eq_true c0) ?_
      refine ⟨_, rfl, (by show 1 ≤ sizeLine; decide), fun p hp => ?_⟩
      exact k.says (o := Sq37.says (-2)) (at_none c0) hh (same_upd hp) hp upd_same rfl
    · refine if_false_of (decide_eq_false c0) ?_
      obtain ⟨dx, L, ds, X⟩ := id hh
      obtain ⟨d, sr, hs, hds, DS, G, hat⟩ := ser_at X (show sn < h.length by omega)
      refine ⟨_, rfl, _, rfl, _, _, rfl, rfl, _, rfl, ?_⟩
      by_cases c1 : b < a
      · refine if_true_of (decide_eq_true (by omega)) ?_
        refine ⟨_, rfl, (by show 1 ≤ sizeLine; decide), fun p hp => ?_⟩
        refine k.says (o := Sq37.says (-1)) ((at_some hs).trans ?_) hh (same_upd hp) hp upd_same rfl
        rw [if_pos c1]
      · refine if_false_of (decide_eq_false (by omega)) ?_
        refine ⟨_, rfl, ha, C, dx, _, _, rfl, X.ob, T.cl, T.nS, lk_here, _, rfl, L, _, _, _, rfl, rfl, SqL.of X.ls, hat, _, rfl, _, rfl, d, sr, a, b, rfl, DS, G, by omega, fun et H1 s1 => ?_, fun n m et H1 p s1 hp1 => ?_⟩
        · refine ⟨_, rfl, rfl, _, rfl, ?_⟩
          refine if_true_of (decide_eq_true rfl) ?_
          refine ⟨_, rfl, (by show 1 ≤ sizeLine; decide), fun p hp => ?_⟩
          refine k.says (o := Sq37.says (-3)) ((at_some hs).trans ?_) hh (s1.trans (same_upd hp)) (s1.free hp) upd_same rfl
          rw [if_neg c1, total_tot, et]
          rfl
        · refine ⟨_, rfl, rfl, _, rfl, ?_⟩
          refine if_false_of (decide_eq_false (by intro z; cases z)) ?_
          obtain ⟨b1, b2⟩ := tot_le et G.time G.val G.len
          refine ⟨_, rfl, p, _, _, _, rfl, rfl, SqT.of hp1, at0, _, rfl, p, _, _, _, rfl, rfl, SqT.of hp1, at1, n, m, rfl, tot_pos et, Nat.lt_of_le_of_lt b1 (Nat.lt_of_lt_of_le (show 1000000000000 < 2 ^ 40 by decide) (Nat.pow_le_pow_right (by decide) (by decide))), fun H2 p2 s2 hn2 hp2 => ?_⟩
          refine k.says (o := Sq37.told (Sq37.frac n m)) ((at_some hs).trans ?_) hh (s1.trans s2) (s1.free hn2) hp2 rfl
          rw [if_neg c1, total_tot, et]
          rfl
theorem scRate : FnScope ["house", "series", "a", "b", "found"] ["house", "series", "a", "b"] (defScope sRate) := ⟨rfl, rfl, rfl, by decide +kernel, rfl, by decide +kernel, by decide +kernel⟩
theorem ok_rate {f : Addr} {fd : FuncData} (F : Fun K "rate" "rate" sRate f fd) (T : TxtH K C) (DL : Df P w K mg base "lacks" 1 ["house", "series"] (spLacks C)) (DT : Df P w K mg base "total_between" 4 ["samples", "a", "b"] spTot) (DW : Df P w K mg base "lowest_terms" 1 ["upper", "lower"] spLow) :
    FnOk P w K mg base CX0 5 f fd ["house", "series", "a", "b"] (spRateC C) := by
  refine F.ok scRate (fun vs H Q E h => ?_) (fun cdv A outer s H vs Q E hr h => ?_)
  · obtain ⟨a, h, s, x, y, rfl, _⟩ := h
    rfl
  · obtain ⟨ha, h, sn, a, b, rfl, hh, k⟩ := h
    have hr1 : Room 1 _ := hr.mono (by decide)
    refine ⟨_, pss_cons (ps_if (pt_val (pe_df DL hr1 rfl (pa_cons (pv 0) (pa_cons (pv 1) pa_nil)))) (pss_one (ps_ret (pe_lst (pa_cons (pe_un un_neg pe_int) pa_nil)))) pss_nil)
      (pss_cons (ps_if (pt_cmpR op_le (pv 3) (pv 2) (nomark _)) (pss_one (ps_ret (pe_lst (pa_cons (pe_un un_neg pe_int) pa_nil)))) pss_nil)
      (pss_cons (ps_set (i := 4) scRate.nd rfl (Or.inl rfl) (pe_df DT hr rfl (pa_cons (pe_ix ix_list (pe_fld (pv 0) rfl) (pv 1) (fun _ _ => rfl)) (pa_cons (pv 2) (pa_cons (pv 3) pa_nil)))))
      (pss_cons (ps_if (pt_cmpR op_isN (pv 4) pe_non (nomark _)) (pss_one (ps_ret (pe_lst (pa_cons (pe_un un_neg pe_int) pa_nil)))) pss_nil)
      (pss_one (ps_ret (pe_df DW hr1 rfl (pa_cons (pe_ix ix_tup (pv 4) pe_int (fun _ _ => rfl)) (pa_cons (pe_op op_mul (pe_ix ix_tup (pv 4) pe_int (fun _ _ => rfl)) (pe_op op_sub (pv 3) (pv 2))) pa_nil)))))))), ?_⟩
    refine ⟨_, rfl, _, rfl, ha, h, sn, rfl, hh, _, rfl, ?_⟩
    by_cases c0 : h.length ≤ sn
    · refine if_true_of (decide_eq_true c0) ?_
      refine ⟨_, rfl, (by show 1 ≤ sizeLine; decide), fun p hp => ?_⟩
      exact k.says (o := Sq37.says (-2)) (at_none c0) hh (same_upd hp) hp upd_same rfl
    · refine if_false_of (decide_eq_false c0) ?_
      obtain ⟨dx, L, ds, X⟩ := id hh
      obtain ⟨d, sr, hs, hds, DS, G, hat⟩ := ser_at X (show sn < h.length by omega)
      refine ⟨_, rfl, _, rfl, _, _, rfl, rfl, _, rfl, ?_⟩
      by_cases c1 : b ≤ a
      · refine if_true_of (decide_eq_true (by omega)) ?_
        refine ⟨_, rfl, (by show 1 ≤ sizeLine; decide), fun p hp => ?_⟩
        refine k.says (o := Sq37.says (-1)) ((at_some hs).trans ?_) hh (same_upd hp) hp upd_same rfl
        rw [if_pos c1]
      · refine if_false_of (decide_eq_false (by omega)) ?_
        refine ⟨_, rfl, ha, C, dx, _, _, rfl, X.ob, T.cl, T.nS, lk_here, _, rfl, L, _, _, _, rfl, rfl, SqL.of X.ls, hat, _, rfl, _, rfl, d, sr, a, b, rfl, DS, G, by omega, fun et H1 s1 => ?_, fun n m et H1 p s1 hp1 => ?_⟩
        · refine ⟨_, rfl, rfl, _, rfl, ?_⟩
          refine if_true_of (decide_eq_true rfl) ?_
          refine ⟨_, rfl, (by show 1 ≤ sizeLine; decide), fun p hp => ?_⟩
          refine k.says (o := Sq37.says (-3)) ((at_some hs).trans ?_) hh (s1.trans (same_upd hp)) (s1.free hp) upd_same rfl
          rw [if_neg c1, total_tot, et]
          rfl
        · refine ⟨_, rfl, rfl, _, rfl, ?_⟩
          refine if_false_of (decide_eq_false (by intro z; cases z)) ?_
          obtain ⟨b1, b2⟩ := tot_le et G.time G.val G.len
          have pm := tot_pos et
          have kb : b ≤ 1000000 := tot_known et G.rise G.time
          have e1 : ((m : Nat) : Int) * ((b : Int) - (a : Int)) = ((m * (b - a) : Nat) : Int) := by
            rw [Int.natCast_mul, Int.natCast_sub (by omega)]
          have hb1 : m * (b - a) ≤ 1000000000000 * 1000000 := Nat.mul_le_mul b1 (by omega)
          refine ⟨_, rfl, p, _, _, _, rfl, rfl, SqT.of hp1, at0, _, rfl, p, _, _, _, rfl, rfl, SqT.of hp1, at1, _, rfl, _, rfl, _, _, rfl, rfl, _, _, rfl, rfl, .inl ⟨by omega, by omega⟩, n, m * (b - a), ?_, Nat.mul_pos pm (by omega), Nat.lt_of_le_of_lt hb1 (Nat.lt_of_lt_of_le (show 1000000000000 * 1000000 < 2 ^ 60 by decide) (Nat.pow_le_pow_right (by decide) (by decide))), fun H2 p2 s2 hn2 hp2 => ?_⟩
          · show [V.int n, V.int (((m : Nat) : Int) * ((b : Int) - (a : Int)))] = _
            rw [e1]
          refine k.says (o := Sq37.told (Sq37.frac n (m * (b - a)))) ((at_some hs).trans ?_) hh (s1.trans s2) (s1.free hn2) hp2 rfl
          rw [if_neg c1, total_tot, et]
          show (h, Sq37.told (Sq37.frac (Sq37.frac n m).n ((Sq37.frac n m).d * (b - a)))) = _
          rw [frac_rate pm (show 0 < b - a by omega)]
end
end Ac

set_option Elab.async false
set_option linter.all false
set_option maxRecDepth 100000
set_option maxHeartbeats 2000000
namespace Ac
open PySem PySem.Spec PyProof.Rows L2
section
variable {P : Program} {w : World} {K : PySem.W.Frag} {mg : Str → Option Value} {base : Heap} {C : Addr}
theorem scAnew : FnScope ["house", "series", "a", "b", "often", "before", "after"] ["house", "series", "a", "b"] (defScope sAnew) := ⟨rfl, rfl, rfl, by decide +kernel, rfl, by decide +kernel, by decide +kernel⟩
theorem anew_step {a b : Nat} {x y : Nat × Nat} {l : Sq37.Series} : Sq37.anew a b (x :: y :: l) = (if a ≤ x.1 ∧ y.1 ≤ b ∧ y.2 < x.2 then 1 else 0) + Sq37.anew a b (y :: l) := rfl
theorem ok_anew {f : Addr} {fd : FuncData} (F : Fun K "anew" "anew" sAnew f fd) (T : TxtH K C) (DL : Df P w K mg base "lacks" 1 ["house", "series"] (spLacks C)) (DN : Df P w K mg base "neighbours" 1 ["samples"] spNbr) (DB : Df P w K mg base "began_anew" 1 ["before", "after"] spBeg) :
    FnOk P w K mg base CX0 2 f fd ["house", "series", "a", "b"] (spAnewC C) := by
  refine F.ok scAnew (fun vs H Q E h => ?_) (fun cdv A outer s H vs Q E hr h => ?_)
  · obtain ⟨a, h, s, x, y, rfl, _⟩ := h
    rfl
  · obtain ⟨ha, h, sn, a, b, rfl, hh, k⟩ := h
    refine ⟨_, pss_cons (ps_if (pt_val (pe_df DL hr rfl (pa_cons (pv 0) (pa_cons (pv 1) pa_nil)))) (pss_one (ps_ret (pe_lst (pa_cons (pe_un un_neg pe_int) pa_nil)))) pss_nil)
      (pss_cons (ps_if (pt_cmpR op_lt (pv 3) (pv 2) (nomark _)) (pss_one (ps_ret (pe_lst (pa_cons (pe_un un_neg pe_int) pa_nil)))) pss_nil)
      (pss_cons (ps_set (i := 4) scAnew.nd rfl (Or.inl rfl) pe_int)
      (pss_cons (ps_for PassesOwn.never rfl (pi_list (pe_df DN hr rfl (pa_cons (pe_ix ix_list (pe_fld (pv 0) rfl) (pv 1) (fun _ _ => rfl)) pa_nil)))
          (pg_tup (by rfl) (pgs_cons (pg_name (i := 5) scAnew.nd rfl (Or.inl rfl)) (pgs_cons (pg_name (i := 6) scAnew.nd rfl (Or.inl rfl)) pgs_nil)))
        (pss_one (ps_if (PW.pt (pw_and (pt_cmpR op_le (pv 2) (pe_ix ix_tup (pv 5) pe_int (fun _ _ => rfl)) (nomark _)) (pw_and (pt_cmpR op_le (pe_ix ix_tup (pv 6) pe_int (fun _ _ => rfl)) (pv 3) (nomark _)) (pw_and1 (pt_val (pe_df DB hr rfl (pa_cons (pv 5) (pa_cons (pv 6) pa_nil))))))))
          (pss_one (ps_set (i := 4) scAnew.nd rfl (Or.inl rfl) (pe_op op_add (pv 4) pe_int))) pss_nil)))
      (pss_one (ps_ret (pe_lst (pa_cons (pv 4) pa_nil))))))), ?_⟩
    refine ⟨_, rfl, _, rfl, ha, h, sn, rfl, hh, _, rfl, ?_⟩
    by_cases c0 : h.length ≤ sn
    · refine if_true_of (decide_eq_true c0) ?_
      refine ⟨_, rfl, (by show 1 ≤ sizeLine; decide), fun p hp => ?_⟩
      exact k.says (o := Sq37.says (-2)) (at_none c0) hh (same_upd hp) hp upd_same rfl
    · refine if_false_of (decide_eq_false c0) ?_
      obtain ⟨dx, L, ds, X⟩ := id hh
      obtain ⟨d, sr, hs, hds, DS, G, hat⟩ := ser_at X (show sn < h.length by omega)
      refine ⟨_, rfl, _, rfl, _, _, rfl, rfl, _, rfl, ?_⟩
      by_cases c1 : b < a
      · refine if_true_of (decide_eq_true (by omega)) ?_
        refine ⟨_, rfl, (by show 1 ≤ sizeLine; decide), fun p hp => ?_⟩
        refine k.says (o := Sq37.says (-1)) ((at_some hs).trans ?_) hh (same_upd hp) hp upd_same rfl
        rw [if_pos c1]
      · refine if_false_of (decide_eq_false (by omega)) ?_
        refine ⟨_, rfl, ha, C, dx, _, _, rfl, X.ob, T.cl, T.nS, lk_here, _, rfl, L, _, _, _, rfl, rfl, SqL.of X.ls, hat, d, sr, rfl, DS, G, fun H1 p s1 pn N => ?_⟩
        obtain ⟨qs, hqs, lqs, hq3⟩ := id N
        refine ⟨p, rfl, ⟨_, SqL.of hqs⟩, for_list (K := K) (a := p) (xs := qs.map V.ref) (fun i σ H' => ∃ (W : Nat) (v1 v2 : Option V), σ = [some (.ref ha), some (.int sn), some (.int a), some (.int b), some (.int W), v1, v2] ∧ Same H1 H' ∧ W + Sq37.anew a b (sr.drop i) = Sq37.anew a b sr)
          ⟨0, none, none, rfl, Same.refl _, Nat.zero_add _⟩ (fun i σ H' _ ⟨_, _, _, _, s2, _⟩ => s2.seq (SqL.of hqs)) ?_ ?_⟩
        · rintro i v σ H2 hi ⟨W, v1, v2, rfl, s2, hc⟩
          rw [List.getElem?_map] at hi
          cases eq : qs[i]? with
          | none => rw [eq] at hi; cases hi
          | some qa =>
            rw [eq] at hi
            have ev : V.ref qa = v := Option.some.inj hi
            subst ev
            obtain ⟨ta, ua, x, y, hx, hy, hqt, hta, hua⟩ := hq3 i qa eq
            obtain ⟨l, dl, dl2⟩ := drop_cons2 hx hy
            rw [dl, anew_step, ← dl2] at hc
            refine ⟨qa, _, rfl, SqT.of (s2 _ _ hqt), rfl, _, _, rfl, _, _, rfl, rfl, ?_⟩
            refine ⟨_, rfl, _, rfl, ta, _, _, _, rfl, rfl, SqT.of (s2 _ _ hta), at0, _, _, rfl, rfl, _, rfl, ?_⟩
            have no : ¬ (a ≤ x.1 ∧ y.1 ≤ b ∧ y.2 < x.2) → ∃ (W : Nat) (v1 v2 : Option V), [some (.ref ha), some (.int sn), some (.int a), some (.int b), some (.int (W : Nat)), some (.ref ta), some (.ref ua)] = [some (.ref ha), some (.int sn), some (.int a), some (.int b), some (.int (W : Nat)), v1, v2] ∧ Same H1 H2 ∧ W + Sq37.anew a b (sr.drop (i + 1)) = Sq37.anew a b sr := fun c => by
              rw [if_neg c, Nat.zero_add] at hc
              exact ⟨W, _, _, rfl, s2, hc⟩
            by_cases d1 : a ≤ x.1
            · refine if_true_of (decide_eq_true (by omega)) ?_
              refine ⟨_, rfl, ua, _, _, _, rfl, rfl, SqT.of (s2 _ _ hua), at0, _, rfl, _, _, rfl, rfl, _, rfl, ?_⟩
              by_cases d2 : y.1 ≤ b
              · refine if_true_of (decide_eq_true (by omega)) ?_
                refine ⟨_, rfl, _, rfl, ta, ua, x, y, rfl, s2 _ _ hta, s2 _ _ hua, _, rfl, ?_⟩
                by_cases d3 : y.2 < x.2
                · refine if_true_of (decide_eq_true d3) ?_
                  rw [if_pos ⟨d1, d2, d3⟩] at hc
                  refine ⟨_, rfl, _, _, rfl, rfl, ?_⟩
                  exact ⟨W + 1, some (.ref ta), some (.ref ua), rfl, s2, by omega⟩
                · refine if_false_of (decide_eq_false d3) ?_
                  rw [if_neg (fun z => d3 z.2.2), Nat.zero_add] at hc
                  exact ⟨W, some (.ref ta), some (.ref ua), rfl, s2, hc⟩
              · refine if_false_of (decide_eq_false (by omega)) ?_
                rw [if_neg (fun z => d2 z.2.1), Nat.zero_add] at hc
                exact ⟨W, some (.ref ta), some (.ref ua), rfl, s2, hc⟩
            · refine if_false_of (decide_eq_false (by omega)) ?_
              rw [if_neg (fun z => d1 z.1), Nat.zero_add] at hc
              exact ⟨W, some (.ref ta), some (.ref ua), rfl, s2, hc⟩
        · rintro σ H2 ⟨W, v1, v2, rfl, s2, hc⟩
          rw [List.length_map, lqs] at hc
          have e0 : Sq37.anew a b (sr.drop (sr.length - 1)) = 0 := by
            cases e : sr.drop (sr.length - 1) with
            | nil => rfl
            | cons x l =>
              have hl := congrArg List.length e
              rw [List.length_drop, List.length_cons] at hl
              have : l = [] := List.length_eq_zero_iff.mp (by omega)
              subst this
              rfl
          rw [e0, Nat.add_zero] at hc
          refine ⟨_, rfl, (by show 1 ≤ sizeLine; decide), fun p hp => ?_⟩
          refine k.says (o := Sq37.says (Sq37.anew a b sr : Nat)) ((at_some hs).trans ?_) hh (s1.trans (s2.trans (same_upd hp))) ((s1.trans s2).free hp) upd_same ?_
          · rw [if_neg c1]
          · rw [hc]
            rfl
end
end Ac

set_option Elab.async false
set_option linter.all false
set_option maxRecDepth 100000
set_option maxHeartbeats 2000000
namespace Ac
open PySem PySem.Spec PyProof.Rows L2
abbrev sBegin : Stmt := top 17
section
variable {P : Program} {w : World} {K : PySem.W.Frag} {mg : Str → Option Value} {base : Heap} {C : Addr}
theorem scBegin : FnScope ["house", "series", "number"] ["house", "series"] (defScope sBegin) := ⟨rfl, rfl, rfl, by decide +kernel, rfl, by decide +kernel, by decide +kernel⟩
theorem ok_begin {f : Addr} {fd : FuncData} (F : Fun K "begin" "begin" sBegin f fd) (T : TxtH K C) {tk : Tok} (mN : mg "MOST_SERIES" = some (.int 8 tk)) (mR : mg "range" = none) :
    FnOk P w K mg base CX0 1 f fd ["house", "series"] (spBeginC C) := by
  refine F.ok scBegin (fun vs H Q E h => ?_) (fun cdv A outer s H vs Q E hr h => ?_)
  · obtain ⟨a, h, n, rfl, _⟩ := h
    rfl
  · obtain ⟨ha, h, n, rfl, hh, k⟩ := h
    refine ⟨_, pss_cons (ps_if (PW.pt (pw_or (pt_cmpR op_lt (pv 1) pe_int (nomark _)) (pw_or1 (pt_cmpR op_gt (pv 1) (pe_glob (v := .int 8) rfl mN ⟨_, rfl⟩) (nomark _))))) (pss_one (ps_ret (pe_lst (pa_cons (pe_un un_neg pe_int) pa_nil)))) pss_nil)
      (pss_cons (ps_fld (pv 0) (pe_lc (own := [("number", 2)]) (g := gName 2) (tt := tYes) rfl scBegin.nd (pi_range1 rfl mR (pa_cons (pv 1) pa_nil)) (blkOk_by (N := ["house", "series", "number"]) (sc := defScope sBegin) (own := [("number", 2)]) (by decide +kernel))
          (fun _ _ _ _ _ => pg_name (i := 2) scBegin.nd rfl (Or.inl rfl)) (fun _ _ _ _ _ => pts_nil) (fun _ _ _ _ _ => pe_dnewK)) rfl)
      (pss_one (ps_ret (pe_lst (pa_cons pe_int pa_nil))))), ?_⟩
    refine ⟨_, rfl, _, _, rfl, rfl, _, rfl, ?_⟩
    have no : ∀ (H1 : Hp) (p : Addr), (n = 0 ∨ 8 < n) → Same H H1 → H p = none → H1 p = some (.lst [.int (-1)]) → Q (.ref p) H1 := fun H1 p c s1 hn hp =>
      k.says (o := Sq37.says (-1)) (if_pos c) hh s1 hn hp rfl
    by_cases c0 : n = 0
    · refine if_true_of (decide_eq_true (by omega)) ?_
      refine iteT ?_
      refine ⟨_, rfl, (by show 1 ≤ sizeLine; decide), fun p hp => ?_⟩
      exact no _ p (.inl c0) (same_upd hp) hp upd_same
    · refine if_false_of (decide_eq_false (by omega)) ?_
      refine ⟨_, rfl, _, _, rfl, rfl, _, rfl, ?_⟩
      by_cases c1 : 8 < n
      · refine if_true_of (decide_eq_true (by omega)) ?_
        refine ⟨_, rfl, (by show 1 ≤ sizeLine; decide), fun p hp => ?_⟩
        exact no _ p (.inr c1) (same_upd hp) hp upd_same
      · refine if_false_of (decide_eq_false (by omega)) ?_
        obtain ⟨dx, L, ds, X⟩ := id hh
        -- the comprehension
        refine ⟨_, rfl, (n : Int), rfl, by omega, by omega, fun D hD => ?_⟩
        refine lc_range (lo := 0) (n := n) (fun i H' => ∃ es : List Addr, es.length = i ∧ es.Nodup ∧ (∀ b o, H b = some o → H' b = some o) ∧ H' D = some (.lst (es.map V.ref)) ∧ D ∉ es ∧ ∀ e ∈ es, H e = none ∧ H' e = some (.dK []))
          ⟨[], rfl, List.nodup_nil, fun b o e => by rw [upd_ne (ne_of_none e hD)]; exact e, upd_same, by simp, by simp⟩ ?_ ?_
        · rintro i H' hi ⟨es, hl, hn, hs, hDl, hDe, he⟩
          refine ⟨rfl, fun p hp => ?_⟩
          have pD : D ≠ p := ne_of_none hDl hp
          have pe : p ∉ es := fun z => by rw [(he p z).2] at hp; cases hp
          refine ⟨es.map V.ref, (by rw [upd_ne pD]; exact hDl), (by rw [List.length_map, hl]; exact Nat.lt_trans hi (Nat.lt_of_le_of_lt (show n ≤ 8 by omega) (by decide))), es ++ [p], (by rw [List.length_append, hl]; rfl), ?_, fun b o e => ?_, ?_, ?_, fun e hem => ?_⟩
          · rw [List.nodup_append]
            refine ⟨hn, by simp, fun a ha b hb => ?_⟩
            rw [List.mem_singleton.mp hb]
            exact fun z => pe (z ▸ ha)
          · rw [upd_ne (ne_of_none e hD), upd_ne (ne_of_none (hs b o e) hp)]
            exact hs b o e
          · rw [upd_same, List.map_append]
            rfl
          · intro z
            rcases List.mem_append.mp z with z | z
            · exact hDe z
            · exact pD (List.mem_singleton.mp z)
          · have hpn : H p = none := by
              cases q : H p with
              | none => rfl
              | some o => rw [hs p o q] at hp; cases hp
            rcases List.mem_append.mp hem with z | z
            · have ne1 : e ≠ D := fun q => hDe (q ▸ z)
              have ne2 : e ≠ p := fun q => pe (q ▸ z)
              rw [upd_ne ne1, upd_ne ne2]
              exact he e z
            · rw [List.mem_singleton.mp z, upd_ne pD.symm, upd_same]
              exact ⟨hpn, rfl⟩
        · rintro H' ⟨es, hl, hn, hs, hDl, hDe, he⟩
          have hob := hs _ _ X.ob
          have nD : ha ≠ D := ne_of_none X.ob hD
          refine ⟨_, rfl, ha, C, dx, _, rfl, hob, T.cl, T.nS, (by show 1 < 1000; decide), (by show 1 ≤ sizeLine; decide), fun p hp => ?_⟩
          have ep : p ≠ ha := fun z => by rw [z, upd_same] at hp; cases hp
          have hp' : H' p = none := by rw [upd_ne ep] at hp; exact hp
          have e1 : h.step (.begin_ n) = (List.replicate n [], Sq37.says 0) := if_neg (by show ¬ (n = 0 ∨ 8 < n); omega)
          refine k _ p ?_ ?_ ?_ ((show Same H H' from hs).free hp') ?_
          · rw [e1]
            refine ⟨dx, D, es, ?_, ?_, hn, ?_, ?_, fun i s hs' => ?_⟩
            · rw [upd_ne (Ne.symm ep), upd_same]
              exact congrArg (fun l => some (HO.ins C dx l)) put_here
            · rw [upd_ne (ne_of_none hDl hp'), upd_ne nD.symm]
              exact hDl
            · rw [hl]
              show n = (List.replicate n ([] : Sq37.Series)).length
              rw [List.length_replicate]
            · show (List.replicate n ([] : Sq37.Series)).length ≤ 8
              rw [List.length_replicate]
              omega
            · have hs2 : (List.replicate n ([] : Sq37.Series))[i]? = some s := hs'
              rw [List.getElem?_replicate] at hs2
              by_cases ci : i < n
              · rw [if_pos ci] at hs2
                have es0 : s = [] := (Option.some.inj hs2).symm
                subst es0
                have hil : i < es.length := by omega
                have hm := List.getElem_mem hil
                obtain ⟨g1, g2⟩ := he _ hm
                refine ⟨es[i], List.getElem?_eq_getElem hil, ⟨[], ?_, List.Perm.refl _⟩, ⟨List.Pairwise.nil, by simp, by simp, by simp⟩⟩
                rw [upd_ne (ne_of_none g2 hp'), upd_ne (fun z => by rw [z, X.ob] at g1; cases g1)]
                exact g2
              · rw [if_neg ci] at hs2
                cases hs2
          · intro b o e st
            have nb : b ≠ ha := fun z => by
              rw [z, X.ob] at e
              cases e
              cases st
            rw [upd_ne (ne_of_none (hs b o e) hp'), upd_ne nb]
            exact hs b o e
          · intro b o e _ C' dx' L' e2
            rw [upd_ne (Ne.symm ep), upd_same] at e2
            have e3 : HO.ins C dx (putF ("series" : Str) (V.ref D) (fld L)) = HO.ins C' dx' (fld L') := Option.some.inj e2
            rw [show putF ("series" : Str) (V.ref D) (fld L) = fld D from put_here] at e3
            have e4 : D = L' := by injection e3 with _ _ q; injection q with q1; injection q1 with _ q2; injection q2
            rw [← e4]
            exact (ne_of_none e hD).symm
          · rw [e1]
            exact upd_same
end
end Ac

set_option Elab.async false
set_option linter.all false
set_option maxRecDepth 100000
set_option maxHeartbeats 2000000
namespace Ac
open PySem PySem.Spec PyProof.Rows L2
abbrev sSample : Stmt := top 18
abbrev sOut : Stmt := top 19
section
variable {P : Program} {w : World} {K : PySem.W.Frag} {mg : Str → Option Value} {base : Heap} {C : Addr}
theorem scSample : FnScope ["house", "series", "time", "shows", "samples"] ["house", "series", "time", "shows"] (defScope sSample) := ⟨rfl, rfl, rfl, by decide +kernel, rfl, by decide +kernel, by decide +kernel⟩
theorem ok_sample {f : Addr} {fd : FuncData} (F : Fun K "sample" "sample" sSample f fd) (T : TxtH K C) (DL : Df P w K mg base "lacks" 1 ["house", "series"] (spLacks C)) (mLen : mg "len" = none)
    {t1 t2 t3 : Tok} (mT : mg "LATEST_TIME" = some (.int 1000000 t1)) (mV : mg "MOST_SHOWN" = some (.int 1000000000 t2)) (mM : mg "MOST_SAMPLES" = some (.int 60 t3)) :
    FnOk P w K mg base CX0 2 f fd ["house", "series", "time", "shows"] (spSampleC C) := by
  refine F.ok scSample (fun vs H Q E h => ?_) (fun cdv A outer s H vs Q E hr h => ?_)
  · obtain ⟨a, h, s, x, y, rfl, _⟩ := h
    rfl
  · obtain ⟨ha, h, sn, t, v, rfl, hh, k⟩ := h
    have hu := hu_of hr
    refine ⟨_, pss_cons (ps_if (pt_val (pe_df DL hr rfl (pa_cons (pv 0) (pa_cons (pv 1) pa_nil)))) (pss_one (ps_ret (pe_lst (pa_cons (pe_un un_neg pe_int) pa_nil)))) pss_nil)
      (pss_cons (ps_if (PW.pt (pw_or (pt_cmpR op_gt (pv 2) (pe_glob (v := .int 1000000) rfl mT ⟨_, rfl⟩) (nomark _)) (pw_or1 (pt_cmpR op_gt (pv 3) (pe_glob (v := .int 1000000000) rfl mV ⟨_, rfl⟩) (nomark _))))) (pss_one (ps_ret (pe_lst (pa_cons (pe_un un_neg pe_int) pa_nil)))) pss_nil)
      (pss_cons (ps_set (i := 4) scSample.nd rfl (Or.inl rfl) (pe_ix ix_list (pe_fld (pv 0) rfl) (pv 1) (fun _ _ => rfl)))
      (pss_cons (ps_if (pt_cmp (pc_din hu (pv 2) (pv 4)))
          (pss_one (ps_ret (pe_ifExp (pt_cmpR op_eq (pe_dget hu (pv 4) (pv 2) (fun _ _ => rfl)) (pv 3) (nomark _)) (pe_lst (pa_cons (pe_callB call_lenD (by rfl) mLen PySem.boot_len (pa_cons (pv 4) pa_nil)) pa_nil)) (pe_lst (pa_cons (pe_un un_neg pe_int) pa_nil))))) pss_nil)
      (pss_cons (ps_if (pt_cmpR op_ge (pe_callB call_lenD (by rfl) mLen PySem.boot_len (pa_cons (pv 4) pa_nil)) (pe_glob (v := .int 60) rfl mM ⟨_, rfl⟩) (nomark _)) (pss_one (ps_ret (pe_lst (pa_cons (pe_un un_neg pe_int) pa_nil)))) pss_nil)
      (pss_cons (ps_dput hu (pv 4) (pv 2) (pv 3) rfl)
      (pss_one (ps_ret (pe_lst (pa_cons (pe_callB call_lenD (by rfl) mLen PySem.boot_len (pa_cons (pv 4) pa_nil)) pa_nil))))))))), ?_⟩
    refine ⟨_, rfl, _, rfl, ha, h, sn, rfl, hh, _, rfl, ?_⟩
    by_cases c0 : h.length ≤ sn
    · refine if_true_of (decide_eq_true c0) ?_
      refine ⟨_, rfl, (by show 1 ≤ sizeLine; decide), fun p hp => ?_⟩
      exact k.says (o := Sq37.says (-2)) (at_none c0) hh (same_upd hp) hp upd_same rfl
    · refine if_false_of (decide_eq_false c0) ?_
      obtain ⟨dx, L, ds, X⟩ := id hh
      obtain ⟨d, sr, hs, hds, ⟨ps, hd, hpm⟩, G, hat⟩ := ser_at X (show sn < h.length by omega)
      have lps : (ps.map entK).length = sr.length := by have := hpm.length_eq; simpa using this
      refine ⟨_, rfl, _, _, rfl, rfl, _, rfl, ?_⟩
      by_cases c1 : 1000000 < t
      · refine if_true_of (decide_eq_true (by omega)) ?_
        refine iteT ?_
        refine ⟨_, rfl, (by show 1 ≤ sizeLine; decide), fun p hp => ?_⟩
        refine k.says (o := Sq37.says (-1)) ((at_some hs).trans ?_) hh (same_upd hp) hp upd_same rfl
        exact if_pos (.inl c1)
      · refine if_false_of (decide_eq_false (by omega)) ?_
        refine ⟨_, rfl, _, _, rfl, rfl, _, rfl, ?_⟩
        by_cases c2 : 1000000000 < v
        · refine if_true_of (decide_eq_true (by omega)) ?_
          refine ⟨_, rfl, (by show 1 ≤ sizeLine; decide), fun p hp => ?_⟩
          refine k.says (o := Sq37.says (-1)) ((at_some hs).trans ?_) hh (same_upd hp) hp upd_same rfl
          exact if_pos (.inr c2)
        · refine if_false_of (decide_eq_false (by omega)) ?_
          have e0 : ¬ (Sq37.TIME < t ∨ Sq37.VALUE < v) := by
            show ¬ (1000000 < t ∨ 1000000000 < v)
            omega
          refine ⟨_, rfl, ha, C, dx, _, _, rfl, X.ob, T.cl, T.nS, lk_here, _, rfl, L, _, _, _, rfl, rfl, SqL.of X.ls, hat, ?_⟩
          have hvf := val_find G.rise hpm t
          refine ⟨_, rfl, _, rfl, d, _, rfl, DGet.k (k := Sum.inl (t : Int)) hd, _, rfl, ?_⟩
          rw [hvf]
          cases ef : sr.find? fun x => x.1 == t with
          | some x =>
            refine if_true_of rfl ?_
            rw [ef] at hvf
            have hg : DGet H d (.int t) (some (.int (x.2 : Nat))) := by
              have := DGet.k (k := Sum.inl (t : Int)) hd
              rw [hvf] at this
              exact this
            refine ⟨_, rfl, _, rfl, d, _, rfl, hg, _, rfl, rfl, _, rfl, ?_⟩
            by_cases c3 : x.2 = v
            · refine if_true_of (decide_eq_true (by rw [c3])) ?_
              refine ⟨_, rfl, d, _, rfl, hd, (by show 1 ≤ sizeLine; decide), fun p hp => ?_⟩
              refine k.says (o := Sq37.says sr.length) ((at_some hs).trans ?_) hh (same_upd hp) hp upd_same ?_
              · rw [if_neg e0, ef]
                exact if_pos c3
              · rw [lps]
                rfl
            · refine if_false_of (decide_eq_false (fun z => c3 (by have := V.int.inj z; omega))) ?_
              refine ⟨_, rfl, (by show 1 ≤ sizeLine; decide), fun p hp => ?_⟩
              refine k.says (o := Sq37.says (-4)) ((at_some hs).trans ?_) hh (same_upd hp) hp upd_same rfl
              rw [if_neg e0, ef]
              exact if_neg c3
          | none =>
            refine if_false_of rfl ?_
            have hno : ∀ x ∈ sr, x.1 ≠ t := fun x hx => by
              have := List.find?_eq_none.mp ef x hx
              simpa using this
            refine ⟨_, rfl, d, _, rfl, hd, _, _, rfl, rfl, _, rfl, ?_⟩
            by_cases c4 : 60 ≤ sr.length
            · refine if_true_of (decide_eq_true (by rw [lps]; omega)) ?_
              refine ⟨_, rfl, (by show 1 ≤ sizeLine; decide), fun p hp => ?_⟩
              refine k.says (o := Sq37.says (-5)) ((at_some hs).trans ?_) hh (same_upd hp) hp upd_same rfl
              rw [if_neg e0, ef]
              exact if_pos c4
            · refine if_false_of (decide_eq_false (by rw [lps]; omega)) ?_
              rw [ef] at hvf
              have hvn : valV (ps.map entK) (Sum.inl (t : Int) : L2.Key) = none := hvf
              refine ⟨_, rfl, _, rfl, _, rfl, d, _, rfl, DPut.k (k := Sum.inl (t : Int)) hd (small1000 (by rw [lps]; omega)), ?_⟩
              have ep : putK (ps.map entK) (Sum.inl (t : Int) : L2.Key) (V.int (v : Int)) = (ps ++ [((t : Int), (v : Int))]).map entK := by
                rw [putK_new _ hvn, List.map_append]
                rfl
              rw [ep]
              refine ⟨_, rfl, d, _, rfl, upd_same, (by show 1 ≤ sizeLine; decide), fun p hp => ?_⟩
              have es : h.step (.sample sn t v) = (h.set sn (Sq37.enter (t, v) sr), Sq37.says (sr.length + 1 : Nat)) := by
                refine (at_some hs).trans ?_
                rw [if_neg e0, ef]
                exact if_neg c4
              have hpm2 : (ps ++ [((t : Int), (v : Int))]).Perm ((Sq37.enter (t, v) sr).map cst) := by
                refine List.Perm.trans ?_ ((enter_perm (v := v) hno).map cst).symm
                exact (List.perm_append_singleton _ _).trans (hpm.cons _)
              have X2 := X.put (ps := ps ++ [((t : Int), (v : Int))]) (s := Sq37.enter (t, v) sr) hds hd ⟨_, rfl⟩ hpm2 (good_enter G hno (by omega) (by omega) (by omega))
              refine k _ p ?_ ?_ (fun b o _ f => off_ob X.ob (same_upd hp _ _ X2.ob) f) (upd_free hp) ?_
              · rw [es]
                exact ⟨dx, L, ds, X2.same (same_upd hp)⟩
              · exact (keeps_dict hd).trans (Keeps.of (same_upd hp))
              · rw [es, upd_same]
                have el : ((ps ++ [((t : Int), (v : Int))]).map entK).length = sr.length + 1 := by
                  rw [List.length_map] at lps ⊢
                  rw [List.length_append, lps]
                  rfl
                rw [el]
                rfl
theorem scOut : FnScope ["house", "series", "time", "samples"] ["house", "series", "time"] (defScope sOut) := ⟨rfl, rfl, rfl, by decide +kernel, rfl, by decide +kernel, by decide +kernel⟩
theorem ok_out {f : Addr} {fd : FuncData} (F : Fun K "out" "out" sOut f fd) (T : TxtH K C) (DL : Df P w K mg base "lacks" 1 ["house", "series"] (spLacks C)) (mLen : mg "len" = none) :
    FnOk P w K mg base CX0 2 f fd ["house", "series", "time"] (spOutC C) := by
  refine F.ok scOut (fun vs H Q E h => ?_) (fun cdv A outer s H vs Q E hr h => ?_)
  · obtain ⟨a, h, s, x, rfl, _⟩ := h
    rfl
  · obtain ⟨ha, h, sn, t, rfl, hh, k⟩ := h
    have hu := hu_of hr
    refine ⟨_, pss_cons (ps_if (pt_val (pe_df DL hr rfl (pa_cons (pv 0) (pa_cons (pv 1) pa_nil)))) (pss_one (ps_ret (pe_lst (pa_cons (pe_un un_neg pe_int) pa_nil)))) pss_nil)
      (pss_cons (ps_set (i := 3) scOut.nd rfl (Or.inl rfl) (pe_ix ix_list (pe_fld (pv 0) rfl) (pv 1) (fun _ _ => rfl)))
      (pss_cons (ps_if (pt_cmp (pc_dnotin hu (pv 2) (pv 3))) (pss_one (ps_ret (pe_lst (pa_cons (pe_un un_neg pe_int) pa_nil)))) pss_nil)
      (pss_cons (ps_expr (pe_dpop1 (pv 3) (pv 2) ⟨rfl, rfl, rfl, rfl⟩))
      (pss_one (ps_ret (pe_lst (pa_cons (pe_callB call_lenD (by rfl) mLen PySem.boot_len (pa_cons (pv 3) pa_nil)) pa_nil))))))), ?_⟩
    refine ⟨_, rfl, _, rfl, ha, h, sn, rfl, hh, _, rfl, ?_⟩
    by_cases c0 : h.length ≤ sn
    · refine if_true_of (decide_eq_true c0) ?_
      refine ⟨_, rfl, (by show 1 ≤ sizeLine; decide), fun p hp => ?_⟩
      exact k.says (o := Sq37.says (-2)) (at_none c0) hh (same_upd hp) hp upd_same rfl
    · refine if_false_of (decide_eq_false c0) ?_
      obtain ⟨dx, L, ds, X⟩ := id hh
      obtain ⟨d, sr, hs, hds, ⟨ps, hd, hpm⟩, G, hat⟩ := ser_at X (show sn < h.length by omega)
      have lps : (ps.map entK).length = sr.length := by have := hpm.length_eq; simpa using this
      refine ⟨_, rfl, ha, C, dx, _, _, rfl, X.ob, T.cl, T.nS, lk_here, _, rfl, L, _, _, _, rfl, rfl, SqL.of X.ls, hat, ?_⟩
      have hvf := val_find G.rise hpm t
      refine ⟨_, rfl, _, rfl, d, _, rfl, DGet.k (k := Sum.inl (t : Int)) hd, _, rfl, ?_⟩
      rw [hvf]
      cases ef : sr.find? fun x => x.1 == t with
      | none =>
        refine if_true_of rfl ?_
        refine ⟨_, rfl, (by show 1 ≤ sizeLine; decide), fun p hp => ?_⟩
        refine k.says (o := Sq37.says (-3)) ((at_some hs).trans ?_) hh (same_upd hp) hp upd_same rfl
        refine if_pos ?_
        rw [List.any_eq_false]
        exact fun x hx => List.find?_eq_none.mp ef x hx
      | some x =>
        refine if_false_of rfl ?_
        rw [ef] at hvf
        have hx := List.mem_of_find?_eq_some ef
        have ht : x.1 = t := by have := List.find?_some ef; simpa using this
        refine ⟨_, rfl, d, rfl, .inl ⟨_, .inl hd⟩, _, rfl, _, Sum.inl (t : Int), _, hd, rfl, hvf, ?_⟩
        rw [drop_ent]
        refine ⟨_, rfl, d, _, rfl, upd_same, (by show 1 ≤ sizeLine; decide), fun p hp => ?_⟩
        have es : h.step (.out sn t) = (h.set sn (sr.filter fun x => x.1 != t), Sq37.says (sr.length - 1 : Nat)) := by
          refine (at_some hs).trans ?_
          refine if_neg ?_
          rw [Bool.not_eq_false, List.any_eq_true]
          exact ⟨x, hx, by simpa using ht⟩
        have hpm2 := perm_drop hpm t
        have X2 := X.put hds hd ⟨_, rfl⟩ hpm2 (good_filter G)
        refine k _ p ?_ ?_ (fun b o _ f => off_ob X.ob (same_upd hp _ _ X2.ob) f) (upd_free hp) ?_
        · rw [es]
          exact ⟨dx, L, ds, X2.same (same_upd hp)⟩
        · exact (keeps_dict hd).trans (Keeps.of (same_upd hp))
        · rw [es, upd_same]
          have el : ((ps.filter fun q => decide (q.1 ≠ (t : Int))).map entK).length = sr.length - 1 := by
            have a := hpm2.length_eq
            rw [List.length_map, len_drop G.rise ⟨x, hx, ht⟩] at a
            rw [List.length_map]
            exact a
          rw [el]
          rfl
end
end Ac

set_option Elab.async false
set_option linter.all false
set_option maxRecDepth 100000
set_option maxHeartbeats 2000000
namespace Ac
open PySem PySem.Spec PyProof.Rows L2
abbrev sEar : Stmt := top 13
abbrev sExc : Stmt := top 14
abbrev sRank : Stmt := top 15
theorem Df.imp {P : Program} {w : World} {K : PySem.W.Frag} {mg : Str → Option Value} {base : Heap} {x : Str} {k : Nat} {ps : List Str} {sp sp' : Sp} (D : Df P w K mg base x k ps sp) (h : ∀ vs H Q E, sp' vs H Q E → sp vs H Q E) : Df P w K mg base x k ps sp' := by
  obtain ⟨f, fd, G, m, kp, b⟩ := D.ex
  exact ⟨f, fd, G.imp h, m, kp, b⟩
/-- exceeds(one, other) -/
def spExc : Sp := fun vs H Q _ => ∃ (p q : Addr) (a b c d : Nat), vs = [.ref p, .ref q] ∧ H p = some (.tup [.int (a : Nat), .int (b : Nat)]) ∧ H q = some (.tup [.int (c : Nat), .int (d : Nat)]) ∧ b ≤ 1000000000000 ∧ d ≤ 1000000000000 ∧ Q (.bl (decide (c * b < a * d))) H
/-- earliest_time(samples, upper, lower) -/
def spEar : Sp := fun vs H Q _ => ∃ (d : Addr) (s : Sq37.Series) (n l : Nat), vs = [.ref d, .int n, .int l] ∧ DictS H d s ∧ Good s ∧ 0 < n ∧ 0 < l ∧ l ≤ 1000000 ∧ FrAt H Q (rea 0 s n l)
section
variable {P : Program} {w : World} {K : PySem.W.Frag} {mg : Str → Option Value} {base : Heap} {C : Addr}
theorem scExc : FnScope ["one", "other"] ["one", "other"] (defScope sExc) := ⟨rfl, rfl, rfl, by decide +kernel, rfl, by decide +kernel, by decide +kernel⟩
theorem ok_exc {f : Addr} {fd : FuncData} (F : Fun K "exceeds" "exceeds" sExc f fd) : FnOk P w K mg base CX0 1 f fd ["one", "other"] spExc := by
  refine F.ok scExc (fun vs H Q E h => ?_) (fun cdv A outer s H vs Q E hr h => ?_)
  · obtain ⟨p, q, a, b, c, d, rfl, _⟩ := h
    rfl
  · obtain ⟨p, q, a, b, c, d, rfl, hp, hq, hb, hd, k⟩ := h
    refine ⟨_, pss_one (ps_ret (pe_cmpR op_gt (pe_op op_mul (pe_ix ix_tup (pv 0) pe_int (fun _ _ => rfl)) (pe_ix ix_tup (pv 1) pe_int (fun _ _ => rfl))) (pe_op op_mul (pe_ix ix_tup (pv 1) pe_int (fun _ _ => rfl)) (pe_ix ix_tup (pv 0) pe_int (fun _ _ => rfl))) (nomark _))), ?_⟩
    refine ⟨_, rfl, p, _, _, _, rfl, rfl, SqT.of hp, at0, _, rfl, q, _, _, _, rfl, rfl, SqT.of hq, at1, _, _, rfl, rfl, .inr ⟨by omega, by omega⟩,
      _, rfl, q, _, _, _, rfl, rfl, SqT.of hq, at0, _, rfl, p, _, _, _, rfl, rfl, SqT.of hp, at1, _, _, rfl, rfl, .inr ⟨by omega, by omega⟩, _, _, rfl, rfl, ?_⟩
    have e : decide ((c : Int) * (b : Int) < (a : Int) * (d : Int)) = decide (c * b < a * d) := by
      apply decide_eq_decide.mpr
      have := Int.ofNat_lt (n := c * b) (m := a * d)
      rw [Int.natCast_mul, Int.natCast_mul] at this
      exact this
    show Q (.bl (decide ((c : Int) * (b : Int) < (a : Int) * (d : Int)))) H
    rw [e]
    exact k
theorem scEar : FnScope ["samples", "upper", "lower", "missing", "before", "after", "step"] ["samples", "upper", "lower"] (defScope sEar) := ⟨rfl, rfl, rfl, by decide +kernel, rfl, by decide +kernel, by decide +kernel⟩
theorem ok_ear {f : Addr} {fd : FuncData} (F : Fun K "earliest_time" "earliest_time" sEar f fd)
    (DN : Df P w K mg base "neighbours" 1 ["samples"] spNbr) (DB : Df P w K mg base "counted_between" 2 ["before", "after"] spBet) : FnOk P w K mg base CX0 3 f fd ["samples", "upper", "lower"] spEar := by
  refine F.ok scEar (fun vs H Q E h => ?_) (fun cdv A outer s H vs Q E hr h => ?_)
  · obtain ⟨d, s, n, l, rfl, _⟩ := h
    rfl
  · obtain ⟨d, sr, n, l, rfl, DS, G, hn, hl, hl2, kN, kS⟩ := h
    have hr1 : Room 1 _ := hr.mono (by decide)
    refine ⟨_, pss_cons (ps_set (i := 3) scEar.nd rfl (Or.inl rfl) (pv 1))
      (pss_cons (ps_for PassesOwn.never rfl (pi_list (pe_df DN hr1 rfl (pa_cons (pv 0) pa_nil)))
          (pg_tup (by rfl) (pgs_cons (pg_name (i := 4) scEar.nd rfl (Or.inl rfl)) (pgs_cons (pg_name (i := 5) scEar.nd rfl (Or.inl rfl)) pgs_nil)))
        (pss_cons (ps_set (i := 6) scEar.nd rfl (Or.inl rfl) (pe_op op_mul (pe_df DB hr rfl (pa_cons (pv 4) (pa_cons (pv 5) pa_nil))) (pv 2)))
        (pss_cons (ps_if (pt_cmpR op_le (pv 3) (pv 6) (nomark _))
            (pss_one (ps_ret (pe_tup (pa_cons (pe_op op_add (pe_op op_mul (pe_ix ix_tup (pv 4) pe_int (fun _ _ => rfl)) (pv 6)) (pe_op op_mul (pv 3) (pe_op op_sub (pe_ix ix_tup (pv 5) pe_int (fun _ _ => rfl)) (pe_ix ix_tup (pv 4) pe_int (fun _ _ => rfl))))) (pa_cons (pv 6) pa_nil)))))
            pss_nil)
        (pss_one (ps_set (i := 3) scEar.nd rfl (Or.inl rfl) (pe_op op_sub (pv 3) (pv 6)))))))
      (pss_one (ps_ret pe_non))), ?_⟩
    refine ⟨_, rfl, _, rfl, d, sr, rfl, DS, G, fun H1 p s1 pn N => ?_⟩
    obtain ⟨qs, hqs, lqs, hq3⟩ := id N
    refine ⟨p, rfl, ⟨_, SqL.of hqs⟩, for_list (K := K) (a := p) (xs := qs.map V.ref) (fun i σ H' => ∃ (u : Nat) (v1 v2 v3 : Option V), σ = [some (.ref d), some (.int n), some (.int l), some (.int ((n : Int) - (u * l : Nat))), v1, v2, v3] ∧ Same H1 H' ∧ u * l < n ∧ rea u (sr.drop i) n l = rea 0 sr n l)
      ⟨0, none, none, none, ?_, Same.refl _, by omega, rfl⟩ (fun i σ H' _ ⟨_, _, _, _, _, s2, _⟩ => s2.seq (SqL.of hqs)) ?_ ?_⟩
    · rw [Nat.zero_mul]
      show [some (V.ref d), some (V.int n), some (V.int l), some (V.int n), none, none, none] = _
      rw [show ((n : Int) - ((0 : Nat) : Int)) = (n : Int) by omega]
    · rintro i v σ H2 hi ⟨u, v1, v2, v3, rfl, s2, hu, hc⟩
      rw [List.getElem?_map] at hi
      cases eq : qs[i]? with
      | none => rw [eq] at hi; cases hi
      | some qa =>
        rw [eq] at hi
        have ev : V.ref qa = v := Option.some.inj hi
        subst ev
        obtain ⟨ta, ua, x, y, hx, hy, hqt, hta, hua⟩ := hq3 i qa eq
        have hxy := rise_at G.rise (Nat.lt_succ_self i) hx hy
        have bx := G.time x (List.mem_of_getElem? hx)
        have by' := G.time y (List.mem_of_getElem? hy)
        have bv := step_le (a := x.2) (G.val y (List.mem_of_getElem? hy))
        obtain ⟨r, dl, dl2⟩ := drop_cons2 hx hy
        have ua1 : (u + Sq37.step x.2 y.2) * l = u * l + Sq37.step x.2 y.2 * l := Nat.add_mul ..
        have ecast : ((Sq37.step x.2 y.2 * l : Nat) : Int) = (Sq37.step x.2 y.2 : Int) * (l : Int) := Int.natCast_mul ..
        refine ⟨qa, _, rfl, SqT.of (s2 _ _ hqt), rfl, _, _, rfl, _, _, rfl, rfl, ?_⟩
        refine ⟨_, rfl, _, rfl, ta, ua, x, y, rfl, s2 _ _ hta, s2 _ _ hua, _, rfl, _, _, rfl, rfl, .inl ⟨by omega, by omega⟩, ?_⟩
        refine ⟨_, rfl, _, rfl, _, _, rfl, rfl, _, rfl, ?_⟩
        by_cases c : n ≤ (u + Sq37.step x.2 y.2) * l
        · refine if_true_of (decide_eq_true (by rw [← ecast]; omega)) ?_
          refine ⟨_, rfl, ta, _, _, _, rfl, rfl, SqT.of (s2 _ _ hta), at0, _, rfl, _, _, rfl, rfl, .inl ⟨by omega, by omega⟩,
            _, rfl, _, rfl, ua, _, _, _, rfl, rfl, SqT.of (s2 _ _ hua), at0, _, rfl, ta, _, _, _, rfl, rfl, SqT.of (s2 _ _ hta), at0, _, _, rfl, rfl, _, _, rfl, rfl, .inr ⟨by omega, by omega⟩, _, _, rfl, rfl, _, rfl, (by show 2 ≤ sizeLine; decide), fun z hz => ?_⟩
          have e2 : rea 0 sr n l = some (x.1 * (l * Sq37.step x.2 y.2) + (n - u * l) * (y.1 - x.1), l * Sq37.step x.2 y.2) := by
            rw [← hc, dl]
            unfold rea
            rw [if_neg (by omega), if_pos c]
          refine kS _ _ e2 _ z (s1.trans (s2.trans (same_upd hz))) (Eq.trans upd_same ?_)
          rw [Nat.mul_comm l (Sq37.step x.2 y.2), Int.natCast_add, Int.natCast_mul x.1, Int.natCast_mul (Sq37.step x.2 y.2), Int.natCast_mul (n - u * l), Int.natCast_sub (Nat.le_of_lt hxy), Int.natCast_sub (Nat.le_of_lt hu)]
        · refine if_false_of (decide_eq_false (by rw [← ecast]; omega)) ?_
          refine ⟨_, rfl, _, rfl, _, _, rfl, rfl, ?_⟩
          refine ⟨u + Sq37.step x.2 y.2, some (.ref ta), some (.ref ua), some (.int ((Sq37.step x.2 y.2 : Nat) * (l : Int))), ?_, s2, by omega, ?_⟩
          · rw [ua1, Int.natCast_add, ecast]
            show [some (V.ref d), some (V.int n), some (V.int l), some (V.int ((n : Int) - ((u * l : Nat) : Int) - (Sq37.step x.2 y.2 : Int) * (l : Int))), _, _, _] = _
            rw [Int.sub_sub]
          · rw [← hc, dl, dl2]
            conv => rhs; unfold rea
            rw [if_neg (by omega), if_neg c]
    · rintro σ H2 ⟨u, v1, v2, v3, rfl, s2, hu, hc⟩
      rw [List.length_map, lqs] at hc
      have e0 : rea 0 sr n l = none := by
        rw [← hc]
        cases e : sr.drop (sr.length - 1) with
        | nil => rfl
        | cons x r =>
          have hl := congrArg List.length e
          rw [List.length_drop, List.length_cons] at hl
          have : r = [] := List.length_eq_zero_iff.mp (by omega)
          subst this
          unfold rea
          rw [if_neg (by omega)]
      exact kN e0 H2 (s1.trans s2)
end
end Ac

set_option Elab.async false
set_option linter.all false
set_option maxRecDepth 100000
set_option maxHeartbeats 2000000
namespace Ac
open PySem PySem.Spec PyProof.Rows L2
abbrev sGaps : Stmt := top 23
abbrev sWhen : Stmt := top 25
abbrev sList : Stmt := top 28
def spGapsC (C : Addr) : Sp := fun vs H Q _ => ∃ (a : Addr) (h : Sq37.House) (s g : Nat), vs = [.ref a, .int s, .int g] ∧ IsHouse C H a h ∧ Ans C H a h (.gaps s g) Q
def spWhenC (C : Addr) : Sp := fun vs H Q _ => ∃ (a : Addr) (h : Sq37.House) (s t x : Nat), vs = [.ref a, .int s, .int t, .int x] ∧ IsHouse C H a h ∧ Ans C H a h (.when s t x) Q
def spListC (C : Addr) : Sp := fun vs H Q _ => ∃ (a : Addr) (h : Sq37.House) (s : Nat), vs = [.ref a, .int s] ∧ IsHouse C H a h ∧ Ans C H a h (.list s) Q
/-- all but t stays -/
def But (t : Addr) (H H' : Hp) : Prop := ∀ b o, H b = some o → b ≠ t → H' b = some o
theorem But.same {t : Addr} {H H1 H2 : Hp} (h : But t H H1) (e : Same H1 H2) : But t H H2 := fun b o hb n => e _ _ (h b o hb n)
theorem But.upd {t : Addr} {H H1 : Hp} {o : HO} (h : But t H H1) : But t H (upd H1 t o) := fun b o' hb n => by rw [upd_ne n]; exact h b o' hb n
/-- what was there ahead of t stays -/
theorem But.new {t : Addr} {H H1 H2 : Hp} (hn : H t = none) (e : Same H H1) (h : But t H1 H2) : Same H H2 := fun b o hb => h b o (e _ _ hb) (ne_of_none hb hn)
/-- two numbers of each -/
def two (l : List (Nat × Nat)) : List Int := l.flatMap fun x => [(x.1 : Int), (x.2 : Int)]
theorem two_len : ∀ l : List (Nat × Nat), (two l).length = 2 * l.length
  | [] => rfl
  | x :: l => by
    have ih := two_len l
    have e : two (x :: l) = (x.1 : Int) :: (x.2 : Int) :: two l := rfl
    rw [e, List.length_cons, List.length_cons, ih, List.length_cons]
    omega
theorem two_snoc (l : List (Nat × Nat)) (x : Nat × Nat) : two (l ++ [x]) = two l ++ [(x.1 : Int), (x.2 : Int)] := by
  unfold two
  rw [List.flatMap_append]
  rfl
theorem ints_two (l : List (Nat × Nat)) : Sq37.ints (l.flatMap fun x => [x.1, x.2]) = two l := by
  unfold Sq37.ints two
  rw [List.map_flatMap]
  rfl
theorem gaps_step {g : Nat} {x y : Nat × Nat} {l : Sq37.Series} : Sq37.gaps g (x :: y :: l) = (if x.1 + g < y.1 then [(x.1, y.1)] else []) ++ Sq37.gaps g (y :: l) := rfl
section
variable {P : Program} {w : World} {K : PySem.W.Frag} {mg : Str → Option Value} {base : Heap} {C : Addr}
theorem scGaps : FnScope ["house", "series", "g", "many", "times", "before", "after"] ["house", "series", "g"] (defScope sGaps) := ⟨rfl, rfl, rfl, by decide +kernel, rfl, by decide +kernel, by decide +kernel⟩
theorem ok_gaps {f : Addr} {fd : FuncData} (F : Fun K "gaps" "gaps" sGaps f fd) (T : TxtH K C) (DL : Df P w K mg base "lacks" 1 ["house", "series"] (spLacks C)) (DN : Df P w K mg base "neighbours" 1 ["samples"] spNbr) :
    FnOk P w K mg base CX0 2 f fd ["house", "series", "g"] (spGapsC C) := by
  refine F.ok scGaps (fun vs H Q E h => ?_) (fun cdv A outer s H vs Q E hr h => ?_)
  · obtain ⟨a, h, s, x, rfl, _⟩ := h
    rfl
  · obtain ⟨ha, h, sn, g, rfl, hh, k⟩ := h
    refine ⟨_, pss_cons (ps_if (pt_val (pe_df DL hr rfl (pa_cons (pv 0) (pa_cons (pv 1) pa_nil)))) (pss_one (ps_ret (pe_lst (pa_cons (pe_un un_neg pe_int) pa_nil)))) pss_nil)
      (pss_cons (ps_set (i := 3) scGaps.nd rfl (Or.inl rfl) pe_int)
      (pss_cons (ps_set (i := 4) scGaps.nd rfl (Or.inl rfl) (pe_lst pa_nil))
      (pss_cons (ps_for PassesOwn.never rfl (pi_list (pe_df DN hr rfl (pa_cons (pe_ix ix_list (pe_fld (pv 0) rfl) (pv 1) (fun _ _ => rfl)) pa_nil)))
          (pg_tup (by rfl) (pgs_cons (pg_name (i := 5) scGaps.nd rfl (Or.inl rfl)) (pgs_cons (pg_name (i := 6) scGaps.nd rfl (Or.inl rfl)) pgs_nil)))
        (pss_one (ps_if (pt_cmpR op_gt (pe_op op_sub (pe_ix ix_tup (pv 6) pe_int (fun _ _ => rfl)) (pe_ix ix_tup (pv 5) pe_int (fun _ _ => rfl))) (pv 2) (nomark _))
          (pss_cons (ps_set (i := 3) scGaps.nd rfl (Or.inl rfl) (pe_op op_add (pv 3) pe_int))
          (pss_one (ps_expr (pe_bm PySem.F.plainAttrs_list PySem.F.slot_list_extend PySem.F.type_list_extend mt_extend (pv 4) (pa_cons (pe_lst (pa_cons (pe_ix ix_tup (pv 5) pe_int (fun _ _ => rfl)) (pa_cons (pe_ix ix_tup (pv 6) pe_int (fun _ _ => rfl)) pa_nil))) pa_nil))))) pss_nil)))
      (pss_one (ps_ret (pe_op op_cat (pe_lst (pa_cons (pv 3) pa_nil)) (pv 4))))))), ?_⟩
    refine ⟨_, rfl, _, rfl, ha, h, sn, rfl, hh, _, rfl, ?_⟩
    by_cases c0 : h.length ≤ sn
    · refine if_true_of (decide_eq_true c0) ?_
      refine ⟨_, rfl, (by show 1 ≤ sizeLine; decide), fun p hp => ?_⟩
      exact k.says (o := Sq37.says (-2)) (at_none c0) hh (same_upd hp) hp upd_same rfl
    · refine if_false_of (decide_eq_false c0) ?_
      obtain ⟨dx, L, ds, X⟩ := id hh
      obtain ⟨d, sr, hs, hds, DS, G, hat⟩ := ser_at X (show sn < h.length by omega)
      refine ⟨(by show 0 ≤ sizeLine; decide), fun tl htl => ?_⟩
      have s0 : Same H (upd H tl (.lst [])) := same_upd htl
      refine ⟨_, rfl, ha, C, dx, _, _, rfl, s0 _ _ X.ob, T.cl, T.nS, lk_here, _, rfl, L, _, _, _, rfl, rfl, SqL.of (s0 _ _ X.ls), hat, d, sr, rfl, DS.same s0, G, fun H1 p s1 pn N => ?_⟩
      obtain ⟨qs, hqs, lqs, hq3⟩ := id N
      have htl1 : H1 tl = some (.lst []) := s1 _ _ upd_same
      have npt : p ≠ tl := fun z => by rw [z, upd_same] at pn; cases pn
      have szl : sizeLine = 16777216 := by decide
      have gl := G.len
      refine ⟨p, rfl, ⟨_, SqL.of hqs⟩, for_list (K := K) (a := p) (xs := qs.map V.ref) (fun i σ H' => ∃ (gs : List (Nat × Nat)) (v1 v2 : Option V), σ = [some (.ref ha), some (.int sn), some (.int g), some (.int (gs.length : Nat)), some (.ref tl), v1, v2] ∧ But tl H1 H' ∧ H' tl = some (.lst ((two gs).map V.int)) ∧ gs ++ Sq37.gaps g (sr.drop i) = Sq37.gaps g sr ∧ gs.length ≤ i)
        ⟨[], none, none, rfl, fun b o e _ => e, htl1, rfl, Nat.le_refl _⟩ (fun i σ H' _ ⟨_, _, _, _, s2, _⟩ => SqL.of (s2 _ _ hqs npt)) ?_ ?_⟩
      · rintro i v σ H2 hi ⟨gs, v1, v2, rfl, s2, ht2, hc, hgl⟩
        rw [List.getElem?_map] at hi
        cases eq : qs[i]? with
        | none => rw [eq] at hi; cases hi
        | some qa =>
          rw [eq] at hi
          have ev : V.ref qa = v := Option.some.inj hi
          subst ev
          obtain ⟨ta, ua, x, y, hx, hy, hqt, hta, hua⟩ := hq3 i qa eq
          have hqt2 := s2 _ _ hqt (fun z => by rw [z, htl1] at hqt; cases hqt)
          have hta2 : SmAt H2 ta x := s2 _ _ hta (fun z => by rw [z] at hta; have := htl1.symm.trans hta; cases this)
          have hua2 : SmAt H2 ua y := s2 _ _ hua (fun z => by rw [z] at hua; have := htl1.symm.trans hua; cases this)
          have hil : i < qs.length := (List.getElem?_eq_some_iff.mp eq).1
          have hxy := rise_at G.rise (Nat.lt_succ_self i) hx hy
          obtain ⟨r, dl, dl2⟩ := drop_cons2 hx hy
          rw [dl, gaps_step, ← dl2] at hc
          refine ⟨qa, _, rfl, SqT.of hqt2, rfl, _, _, rfl, _, _, rfl, rfl, ?_⟩
          refine ⟨_, rfl, ua, _, _, _, rfl, rfl, SqT.of hua2, at0, _, rfl, ta, _, _, _, rfl, rfl, SqT.of hta2, at0, _, _, rfl, rfl, _, rfl, _, _, rfl, rfl, _, rfl, ?_⟩
          by_cases c : x.1 + g < y.1
          · refine if_true_of (decide_eq_true (by omega)) ?_
            rw [if_pos c] at hc
            refine ⟨_, rfl, _, _, rfl, rfl, ?_⟩
            refine ⟨_, rfl, .inl ⟨rfl, _, SqL.of ht2⟩, _, rfl, ta, _, _, _, rfl, rfl, SqT.of hta2, at0, _, rfl, ua, _, _, _, rfl, rfl, SqT.of hua2, at0, (by show 2 ≤ sizeLine; decide), fun q hq => ?_⟩
            have nq : tl ≠ q := ne_of_none ht2 hq
            refine ⟨tl, q, _, _, rfl, rfl, (by rw [upd_ne nq]; exact ht2), upd_same, (by rw [List.length_map, two_len, szl]; show 2 * gs.length + 2 ≤ _; omega), ?_⟩
            refine ⟨gs ++ [(x.1, y.1)], some (.ref ta), some (.ref ua), ?_, (s2.same (same_upd hq)).upd, ?_, ?_, ?_⟩
            · rw [List.length_append]
              rfl
            · rw [upd_same, two_snoc, List.map_append]
              rfl
            · rw [← hc, List.append_assoc]
            · rw [List.length_append]
              show gs.length + 1 ≤ i + 1
              omega
          · refine if_false_of (decide_eq_false (by omega)) ?_
            rw [if_neg c, List.nil_append] at hc
            exact ⟨gs, some (.ref ta), some (.ref ua), rfl, s2, ht2, hc, by omega⟩
      · rintro σ H2 ⟨gs, v1, v2, rfl, s2, ht2, hc, hgl⟩
        rw [List.length_map, lqs] at hc hgl
        have e0 : Sq37.gaps g (sr.drop (sr.length - 1)) = [] := by
          cases e : sr.drop (sr.length - 1) with
          | nil => rfl
          | cons x l =>
            have hl := congrArg List.length e
            rw [List.length_drop, List.length_cons] at hl
            have : l = [] := List.length_eq_zero_iff.mp (by omega)
            subst this
            rfl
        rw [e0, List.append_nil] at hc
        refine ⟨_, rfl, (by show 1 ≤ sizeLine; decide), fun q hq => ?_⟩
        have nq : tl ≠ q := ne_of_none ht2 hq
        refine ⟨_, rfl, q, tl, _, _, rfl, rfl, upd_same, (by rw [upd_ne nq]; exact ht2), (by rw [List.length_map, two_len, szl]; show 1 + 2 * gs.length ≤ _; omega), fun p2 hp2 => ?_⟩
        have sA : Same H H2 := s2.new htl (s0.trans s1)
        refine k.says (o := ⟨(Sq37.gaps g sr).length, Sq37.ints ((Sq37.gaps g sr).flatMap fun x : Nat × Nat => [x.1, x.2])⟩) ((at_some hs).trans rfl) hh (sA.trans ((same_upd hq).trans (same_upd hp2))) ((sA.trans (same_upd hq)).free hp2) upd_same ?_
        rw [ints_two, ← hc]
        rfl
theorem scList : FnScope ["house", "series", "samples", "told", "time", "shows"] ["house", "series"] (defScope sList) := ⟨rfl, rfl, rfl, by decide +kernel, rfl, by decide +kernel, by decide +kernel⟩
theorem ok_list {f : Addr} {fd : FuncData} (F : Fun K "list_of" "list_of" sList f fd) (T : TxtH K C) (DL : Df P w K mg base "lacks" 1 ["house", "series"] (spLacks C)) (mLen : mg "len" = none) (mS : mg "sorted" = none) :
    FnOk P w K mg base CX0 2 f fd ["house", "series"] (spListC C) := by
  refine F.ok scList (fun vs H Q E h => ?_) (fun cdv A outer s H vs Q E hr h => ?_)
  · obtain ⟨a, h, s, rfl, _⟩ := h
    rfl
  · obtain ⟨ha, h, sn, rfl, hh, k⟩ := h
    refine ⟨_, pss_cons (ps_if (pt_val (pe_df DL hr rfl (pa_cons (pv 0) (pa_cons (pv 1) pa_nil)))) (pss_one (ps_ret (pe_lst (pa_cons (pe_un un_neg pe_int) pa_nil)))) pss_nil)
      (pss_cons (ps_set (i := 2) scList.nd rfl (Or.inl rfl) (pe_ix ix_list (pe_fld (pv 0) rfl) (pv 1) (fun _ _ => rfl)))
      (pss_cons (ps_set (i := 3) scList.nd rfl (Or.inl rfl) (pe_lst (pa_cons (pe_callB call_lenD (by rfl) mLen PySem.boot_len (pa_cons (pv 2) pa_nil)) pa_nil)))
      (pss_cons (ps_for PassesOwn.never rfl (pi_list (pe_callB (cr_sortedItI rfl) (by rfl) mS (by decide +kernel) (pa_cons (pe_bm0 PySem.F.plainAttrs_dict PySem.F.slot_dict_items PySem.F.type_dict_items mt_itemsK (pv 2)) pa_nil)))
          (pg_tup (by rfl) (pgs_cons (pg_name (i := 4) scList.nd rfl (Or.inl rfl)) (pgs_cons (pg_name (i := 5) scList.nd rfl (Or.inl rfl)) pgs_nil)))
        (pss_one (ps_expr (pe_bm PySem.F.plainAttrs_list PySem.F.slot_list_extend PySem.F.type_list_extend mt_extend (pv 3) (pa_cons (pe_lst (pa_cons (pv 4) (pa_cons (pv 5) pa_nil))) pa_nil)))))
      (pss_one (ps_ret (pv 3)))))), ?_⟩
    refine ⟨_, rfl, _, rfl, ha, h, sn, rfl, hh, _, rfl, ?_⟩
    by_cases c0 : h.length ≤ sn
    · refine if_true_of (decide_eq_true c0) ?_
      refine ⟨_, rfl, (by show 1 ≤ sizeLine; decide), fun p hp => ?_⟩
      exact k.says (o := Sq37.says (-2)) (at_none c0) hh (same_upd hp) hp upd_same rfl
    · refine if_false_of (decide_eq_false c0) ?_
      obtain ⟨dx, L, ds, X⟩ := id hh
      obtain ⟨d, sr, hs, hds, ⟨ps, hd, hpm⟩, G, hat⟩ := ser_at X (show sn < h.length by omega)
      have lps : (ps.map entK).length = sr.length := by have := hpm.length_eq; simpa using this
      have szl : sizeLine = 16777216 := by decide
      have gl := G.len
      refine ⟨_, rfl, ha, C, dx, _, _, rfl, X.ob, T.cl, T.nS, lk_here, _, rfl, L, _, _, _, rfl, rfl, SqL.of X.ls, hat, ?_⟩
      refine ⟨_, rfl, d, _, rfl, hd, (by show 1 ≤ sizeLine; decide), fun tl htl => ?_⟩
      have s0 := same_upd (o := .lst [.int ((ps.map entK).length : Nat)]) htl
      refine ⟨_, rfl, .inr (.inr (.inl ⟨rfl, .inl ⟨_, s0 _ _ hd⟩⟩)), d, _, rfl, rfl, s0 _ _ hd, fun v hv => ?_⟩
      refine ⟨v, d, ps, rfl, upd_same, (by rw [upd_ne (ne_of_none (s0 _ _ hd) hv)]; exact s0 _ _ hd), fun H1 l zs e1 hpm2 hst hl hl2 hz => ?_⟩
      have s1 := (same_upd hv).trans e1
      have ez : zs.map (·.2) = sr.map cst := sorted_uniq (hpm2.trans hpm) hst (rise_cst G.rise)
      have lz : zs.length = sr.length := by have := congrArg List.length ez; simpa using this
      have htl1 : H1 tl = some (.lst [.int ((ps.map entK).length : Nat)]) := s1 _ _ upd_same
      have nlt : l ≠ tl := fun z => by
        rw [z, upd_ne (ne_of_none upd_same hv), upd_same] at hl
        cases hl
      refine ⟨l, rfl, ⟨_, SqL.of hl2⟩, for_list (K := K) (a := l) (xs := zs.map fun z => V.ref z.1) (fun i σ H' => ∃ (v1 v2 : Option V), σ = [some (.ref ha), some (.int sn), some (.ref d), some (.ref tl), v1, v2] ∧ But tl H1 H' ∧ i ≤ sr.length ∧ H' tl = some (.lst (.int (sr.length : Nat) :: (two (sr.take i)).map V.int)))
        ⟨none, none, rfl, fun b o e _ => e, Nat.zero_le _, by rw [htl1, lps]; rfl⟩ (fun i σ H' _ ⟨_, _, _, s2, _⟩ => SqL.of (s2 _ _ hl2 nlt)) ?_ ?_⟩
      · rintro i v σ H2 hi ⟨v1, v2, rfl, s2, hle, ht2⟩
        rw [List.getElem?_map] at hi
        cases eq : zs[i]? with
        | none => rw [eq] at hi; cases hi
        | some z =>
          rw [eq] at hi
          have ev : V.ref z.1 = v := Option.some.inj hi
          subst ev
          have hil : i < zs.length := (List.getElem?_eq_some_iff.mp eq).1
          obtain ⟨z1, z2⟩ := hz z (List.mem_of_getElem? eq)
          have hx : sr[i]? = some sr[i] := List.getElem?_eq_getElem (by omega)
          generalize hxe : sr[i] = x at hx
          have ex : z.2 = cst x := by
            have a : (zs.map (·.2))[i]? = some z.2 := by rw [List.getElem?_map, eq]; rfl
            rw [ez, List.getElem?_map, hx] at a
            exact (Option.some.inj a).symm
          rw [ex] at z2
          have z22 := s2 _ _ z2 (fun q => by rw [q, htl1] at z2; cases z2)
          refine ⟨z.1, _, rfl, SqT.of z22, rfl, _, _, rfl, _, _, rfl, rfl, ?_⟩
          refine ⟨_, rfl, .inl ⟨rfl, _, SqL.of ht2⟩, _, rfl, _, rfl, (by show 2 ≤ sizeLine; decide), fun q hq => ?_⟩
          have nq : tl ≠ q := ne_of_none ht2 hq
          have tk : (two (sr.take i)).length ≤ 2 * 60 := by
            rw [two_len, List.length_take]
            omega
          refine ⟨tl, q, _, _, rfl, rfl, (by rw [upd_ne nq]; exact ht2), upd_same, (by rw [List.length_cons, List.length_map, szl]; show _ + 1 + 2 ≤ _; omega), ?_⟩
          refine ⟨some (.int x.1), some (.int x.2), rfl, (s2.same (same_upd hq)).upd, by omega, ?_⟩
          rw [upd_same, List.take_add_one, hx]
          show _ = some (HO.lst (V.int (sr.length : Nat) :: (two (sr.take i ++ [x])).map V.int))
          rw [two_snoc, List.map_append]
          rfl
      · rintro σ H2 ⟨v1, v2, rfl, s2, hle, ht2⟩
        rw [List.length_map, lz, List.take_length] at ht2
        refine ⟨_, rfl, ?_⟩
        refine k.says (o := ⟨sr.length, Sq37.ints (sr.flatMap fun x : Nat × Nat => [x.1, x.2])⟩) ((at_some hs).trans rfl) hh (s2.new htl (s0.trans s1)) htl ht2 ?_
        rw [ints_two]
        rfl
theorem scWhen : FnScope ["house", "series", "a", "x", "samples", "to_a", "found"] ["house", "series", "a", "x"] (defScope sWhen) := ⟨rfl, rfl, rfl, by decide +kernel, rfl, by decide +kernel, by decide +kernel⟩
theorem ok_when {f : Addr} {fd : FuncData} (F : Fun K "when" "when" sWhen f fd) (T : TxtH K C) (DL : Df P w K mg base "lacks" 1 ["house", "series"] (spLacks C)) (DU : Df P w K mg base "counted_up_to" 3 ["samples", "time"] spUp) (DE : Df P w K mg base "earliest_time" 3 ["samples", "upper", "lower"] spEar) (DW : Df P w K mg base "lowest_terms" 1 ["upper", "lower"] spLow) :
    FnOk P w K mg base CX0 4 f fd ["house", "series", "a", "x"] (spWhenC C) := by
  refine F.ok scWhen (fun vs H Q E h => ?_) (fun cdv A outer s H vs Q E hr h => ?_)
  · obtain ⟨a, h, s, x, y, rfl, _⟩ := h
    rfl
  · obtain ⟨ha, h, sn, a, x, rfl, hh, k⟩ := h
    have hr1 : Room 1 _ := hr.mono (by decide)
    refine ⟨_, pss_cons (ps_if (pt_val (pe_df DL hr1 rfl (pa_cons (pv 0) (pa_cons (pv 1) pa_nil)))) (pss_one (ps_ret (pe_lst (pa_cons (pe_un un_neg pe_int) pa_nil)))) pss_nil)
      (pss_cons (ps_set (i := 4) scWhen.nd rfl (Or.inl rfl) (pe_ix ix_list (pe_fld (pv 0) rfl) (pv 1) (fun _ _ => rfl)))
      (pss_cons (ps_set (i := 5) scWhen.nd rfl (Or.inl rfl) (pe_df DU hr rfl (pa_cons (pv 4) (pa_cons (pv 2) pa_nil))))
      (pss_cons (ps_if (pt_cmpR op_isN (pv 5) pe_non (nomark _)) (pss_one (ps_ret (pe_lst (pa_cons (pe_un un_neg pe_int) pa_nil)))) pss_nil)
      (pss_cons (ps_if (pt_cmpR op_eq (pv 3) pe_int (nomark _)) (pss_one (ps_ret (pe_lst (pa_cons (pv 2) (pa_cons pe_int pa_nil))))) pss_nil)
      (pss_cons (ps_set (i := 6) scWhen.nd rfl (Or.inl rfl) (pe_df DE hr rfl (pa_cons (pv 4) (pa_cons (pe_op op_add (pe_ix ix_tup (pv 5) pe_int (fun _ _ => rfl)) (pe_op op_mul (pv 3) (pe_ix ix_tup (pv 5) pe_int (fun _ _ => rfl)))) (pa_cons (pe_ix ix_tup (pv 5) pe_int (fun _ _ => rfl)) pa_nil)))))
      (pss_cons (ps_if (pt_cmpR op_isN (pv 6) pe_non (nomark _)) (pss_one (ps_ret (pe_lst (pa_cons (pe_un un_neg pe_int) pa_nil)))) pss_nil)
      (pss_one (ps_ret (pe_df DW hr1 rfl (pa_cons (pe_ix ix_tup (pv 6) pe_int (fun _ _ => rfl)) (pa_cons (pe_ix ix_tup (pv 6) pe_int (fun _ _ => rfl)) pa_nil))))))))))), ?_⟩
    refine ⟨_, rfl, _, rfl, ha, h, sn, rfl, hh, _, rfl, ?_⟩
    by_cases c0 : h.length ≤ sn
    · refine if_true_of (decide_eq_true c0) ?_
      refine ⟨_, rfl, (by show 1 ≤ sizeLine; decide), fun p hp => ?_⟩
      exact k.says (o := Sq37.says (-2)) (at_none c0) hh (same_upd hp) hp upd_same rfl
    · refine if_false_of (decide_eq_false c0) ?_
      obtain ⟨dx, L, ds, X⟩ := id hh
      obtain ⟨d, sr, hs, hds, DS, G, hat⟩ := ser_at X (show sn < h.length by omega)
      have up := upTo_cup sr 0 a
      have est : h.step (.when sn a x) = (match Sq37.upTo (Sq37.counted 0 sr) a with
        | none => (h, Sq37.says (-3))
        | some u => if x = 0 then (h, ⟨a, [1]⟩) else match Sq37.reached (Sq37.counted 0 sr) (u.add (Sq37.whole x)) with
          | none => (h, Sq37.says (-6))
          | some f => (h, Sq37.told f)) := at_some hs
      rw [up] at est
      refine ⟨_, rfl, ha, C, dx, _, _, rfl, X.ob, T.cl, T.nS, lk_here, _, rfl, L, _, _, _, rfl, rfl, SqL.of X.ls, hat, ?_⟩
      refine ⟨_, rfl, _, rfl, d, sr, a, rfl, DS, G, fun ea H1 s1 => ?_, fun n l ea H1 p s1 hp1 => ?_⟩
      · refine ⟨_, rfl, rfl, _, rfl, ?_⟩
        refine if_true_of (decide_eq_true rfl) ?_
        refine ⟨_, rfl, (by show 1 ≤ sizeLine; decide), fun p hp => ?_⟩
        refine k.says (o := Sq37.says (-3)) (est.trans ?_) hh (s1.trans (same_upd hp)) (s1.free hp) upd_same rfl
        rw [ea]
        rfl
      · refine ⟨_, rfl, rfl, _, rfl, ?_⟩
        refine if_false_of (decide_eq_false (by intro z; cases z)) ?_
        rw [ea] at est
        refine ⟨_, rfl, rfl, _, rfl, ?_⟩
        by_cases cx : x = 0
        · refine if_true_of (decide_eq_true (by rw [cx]; rfl)) ?_
          refine ⟨_, rfl, (by show 2 ≤ sizeLine; decide), fun p hp => ?_⟩
          refine k.says (o := ⟨a, [1]⟩) (est.trans ?_) hh (s1.trans (same_upd hp)) (s1.free hp) upd_same rfl
          exact if_pos cx
        · refine if_false_of (decide_eq_false (fun z => cx (by have := V.int.inj z; omega))) ?_
          obtain ⟨b1, b2⟩ := cup_le ea G.time G.val
          have lp := cup_pos ea
          have xl : 0 < x * l := Nat.mul_pos (by omega) lp
          have e1 : (n : Int) + (x : Int) * (l : Int) = ((n + x * l : Nat) : Int) := by rw [Int.natCast_add, Int.natCast_mul]
          have eg : (Sq37.frac n l).add (Sq37.whole x) = Sq37.frac (n + x * l) l := by
            rw [whole_frac, frac_add lp Nat.one_pos, Nat.mul_one, Nat.mul_one]
          have est2 : h.step (.when sn a x) = (match Sq37.reached (Sq37.counted 0 sr) ((Sq37.frac n l).add (Sq37.whole x)) with
            | none => (h, Sq37.says (-6))
            | some f => (h, Sq37.told f)) := est.trans (if_neg cx)
          rw [eg, reached_rea sr 0 _ _ lp] at est2
          refine ⟨_, rfl, _, rfl, p, _, _, _, rfl, rfl, SqT.of hp1, at0, _, rfl, _, rfl, p, _, _, _, rfl, rfl, SqT.of hp1, at1, _, _, rfl, rfl, .inr ⟨by omega, by omega⟩, _, _, rfl, rfl, _, rfl, p, _, _, _, rfl, rfl, SqT.of hp1, at1, d, sr, n + x * l, l, ?_, DS.same s1, G, by omega, lp, b1, fun er H2 s2 => ?_, fun u v er H2 p2 s2 hp2 => ?_⟩
          · show [V.ref d, V.int ((n : Int) + (x : Int) * (l : Int)), V.int l] = _
            rw [e1]
          · refine ⟨_, rfl, rfl, _, rfl, ?_⟩
            refine if_true_of (decide_eq_true rfl) ?_
            refine ⟨_, rfl, (by show 1 ≤ sizeLine; decide), fun p hp => ?_⟩
            refine k.says (o := Sq37.says (-6)) (est2.trans ?_) hh (s1.trans (s2.trans (same_upd hp))) ((s1.trans s2).free hp) upd_same rfl
            rw [er]
            rfl
          · refine ⟨_, rfl, rfl, _, rfl, ?_⟩
            refine if_false_of (decide_eq_false (by intro z; cases z)) ?_
            obtain ⟨r1, r2⟩ := rea_bnd lp G.val er
            have r3 : v ≤ 1000000 * 1000000000 := Nat.le_trans r2 (Nat.mul_le_mul_right _ b1)
            refine ⟨_, rfl, p2, _, _, _, rfl, rfl, SqT.of hp2, at0, _, rfl, p2, _, _, _, rfl, rfl, SqT.of hp2, at1, u, v, rfl, r1, Nat.lt_of_le_of_lt r3 (Nat.lt_of_lt_of_le (show 1000000 * 1000000000 < 2 ^ 60 by decide) (Nat.pow_le_pow_right (by decide) (by decide))), fun H3 p3 s3 hn3 hp3 => ?_⟩
            refine k.says (o := Sq37.told (Sq37.frac u v)) (est2.trans ?_) hh (s1.trans (s2.trans s3)) ((s1.trans s2).free hn3) hp3 rfl
            rw [er]
            rfl
end
end Ac

set_option Elab.async false
set_option linter.all false
set_option maxRecDepth 100000
set_option maxHeartbeats 2000000
namespace Ac
open PySem PySem.Spec PyProof.Rows L2
abbrev sTop : Stmt := top 27
/-- a series' number with its total -/
def toF (z : Addr × Nat × Nat × Nat) : Nat × Sq37.Frac := (z.2.1, Sq37.frac z.2.2.1 z.2.2.2)
def One (H : Hp) (z : Addr × Nat × Nat × Nat) : Prop := ∃ t, H z.1 = some (.tup [.int (z.2.1 : Nat), .ref t]) ∧ H t = some (.tup [.int (z.2.2.1 : Nat), .int (z.2.2.2 : Nat)])
def RkAt (H : Hp) (p : Addr) (zs : List (Addr × Nat × Nat × Nat)) : Prop := H p = some (.lst (zs.map fun z => V.ref z.1)) ∧ ∀ z ∈ zs, One H z
def RkOk (zs : List (Addr × Nat × Nat × Nat)) : Prop := ∀ z ∈ zs, 0 < z.2.2.2 ∧ z.2.2.2 ≤ 1000000000000
theorem One.same {H H' : Hp} {z : Addr × Nat × Nat × Nat} (h : One H z) (e : Same H H') : One H' z := let ⟨t, h1, h2⟩ := h; ⟨t, e _ _ h1, e _ _ h2⟩
theorem One.upd {H : Hp} {z : Addr × Nat × Nat × Nat} {p : Addr} {xs : List V} {o : HO} (h : One H z) (hp : H p = some (.lst xs)) : One (upd H p o) z := by
  obtain ⟨t, h1, h2⟩ := h
  refine ⟨t, ?_, ?_⟩
  · rw [upd_ne (fun q => by rw [q, hp] at h1; cases h1)]
    exact h1
  · rw [upd_ne (fun q => by rw [q, hp] at h2; cases h2)]
    exact h2
theorem One.but {H H' : Hp} {z : Addr × Nat × Nat × Nat} {p : Addr} {xs : List V} (h : One H z) (hp : H p = some (.lst xs)) (e : But p H H') : One H' z := by
  obtain ⟨t, h1, h2⟩ := h
  exact ⟨t, e _ _ h1 (fun q => by rw [q, hp] at h1; cases h1), e _ _ h2 (fun q => by rw [q, hp] at h2; cases h2)⟩
def spRank (C : Addr) : Sp := fun vs H Q _ => ∃ (ha : Addr) (h : Sq37.House) (a b : Nat), vs = [.ref ha, .int a, .int b] ∧ IsHouse C H ha h ∧ a ≤ b ∧
  ∀ (H' : Hp) (p : Addr) (zs : List (Addr × Nat × Nat × Nat)), Same H H' → H p = none → RkAt H' p zs → zs.map toF = ranks h a b h.length → RkOk zs → zs.length ≤ 8 → Q (.ref p) H'
def spTopC (C : Addr) : Sp := fun vs H Q _ => ∃ (ha : Addr) (h : Sq37.House) (n a b : Nat), vs = [.ref ha, .int n, .int a, .int b] ∧ IsHouse C H ha h ∧ Ans C H ha h (.top n a b) Q
theorem le_iffN {a b c d : Nat} (hb : 0 < b) (hd : 0 < d) : (Sq37.frac a b).le (Sq37.frac c d) = !decide (c * b < a * d) := by
  rw [frac_le hb hd]
  by_cases h : c * b < a * d
  · rw [decide_eq_true h, decide_eq_false (by omega)]
    rfl
  · rw [decide_eq_false h, decide_eq_true (by omega)]
    rfl
theorem cut_take (xs : List V) (m : Nat) : cutV xs none (some (m : Int)) = xs.take m := by
  unfold cutV
  rw [HT.sIx_nat, HT.sIx_none]
  show (xs.drop 0).take (min m xs.length - 0) = xs.take m
  rw [List.drop_zero, Nat.sub_zero]
  exact (List.take_eq_take_min ..).symm
section
variable {P : Program} {w : World} {K : PySem.W.Frag} {mg : Str → Option Value} {base : Heap} {C : Addr}
theorem scRank : FnScope ["house", "a", "b", "ranked", "number", "samples", "found", "at"] ["house", "a", "b"] (defScope sRank) := ⟨rfl, rfl, rfl, by decide +kernel, rfl, by decide +kernel, by decide +kernel⟩
theorem ok_rank {f : Addr} {fd : FuncData} (F : Fun K "ranked_totals" "ranked_totals" sRank f fd) (T : TxtH K C) (DT : Df P w K mg base "total_between" 4 ["samples", "a", "b"] spTot) (DX : Df P w K mg base "exceeds" 1 ["one", "other"] spExc) (mE : mg "enumerate" = none) (mLen : mg "len" = none) :
    FnOk P w K mg base CX0 5 f fd ["house", "a", "b"] (spRank C) := by
  refine F.ok scRank (fun vs H Q E h => ?_) (fun cdv A outer s H vs Q E hr h => ?_)
  · obtain ⟨a, h, x, y, rfl, _⟩ := h
    rfl
  · obtain ⟨ha, h, a, b, rfl, hh, hab, k⟩ := h
    have hr1 : Room 1 _ := hr.mono (by decide)
    refine ⟨_, pss_cons (ps_set (i := 3) scRank.nd rfl (Or.inl rfl) (pe_lst pa_nil))
      (pss_cons (ps_for PassesOwn.never rfl (pi_enum (by rfl) mE (pa_cons (pe_fld (pv 0) rfl) pa_nil))
          (pg_tup (by rfl) (pgs_cons (pg_name (i := 4) scRank.nd rfl (Or.inl rfl)) (pgs_cons (pg_name (i := 5) scRank.nd rfl (Or.inl rfl)) pgs_nil)))
        (pss_cons (ps_set (i := 6) scRank.nd rfl (Or.inl rfl) (pe_df DT hr rfl (pa_cons (pv 5) (pa_cons (pv 1) (pa_cons (pv 2) pa_nil)))))
        (pss_one (ps_if (pt_cmpR op_notN (pv 6) pe_non (nomark _))
          (pss_cons (ps_set (i := 7) scRank.nd rfl (Or.inl rfl) pe_int)
          (pss_cons (ps_while PassesOwn.never (PW.pt (pw_and (pt_cmpR op_lt (pv 7) (pe_callB call_len_seq (by rfl) mLen PySem.boot_len (pa_cons (pv 3) pa_nil)) (nomark _))
              (pw_and1 (pt_not (pt_val (pe_df DX hr1 rfl (pa_cons (pv 6) (pa_cons (pe_ix ix_tup (pe_ix ix_list (pv 3) (pv 7) (fun _ _ => rfl)) pe_int (fun _ _ => rfl)) pa_nil))))))))
            (pss_one (ps_set (i := 7) scRank.nd rfl (Or.inl rfl) (pe_op op_add (pv 7) pe_int))))
          (pss_one (ps_expr (pe_bm PySem.F.plainAttrs_list PySem.F.slot_list_insert PySem.F.type_list_insert mt_insert (pv 3) (pa_cons (pv 7) (pa_cons (pe_tup (pa_cons (pv 4) (pa_cons (pv 6) pa_nil))) pa_nil)))))))
          pss_nil))))
      (pss_one (ps_ret (pv 3)))), ?_⟩
    obtain ⟨dx, L, ds, X⟩ := id hh
    have szl : sizeLine = 16777216 := by decide
    refine ⟨(by show 0 ≤ sizeLine; decide), fun rl hrl => ?_⟩
    have s0 : Same H (upd H rl (.lst [])) := same_upd hrl
    have hn0 : (upd H rl (.lst [])) rl = some (.lst []) := upd_same
    generalize hH0 : upd H rl (.lst []) = H0 at s0 hn0
    have X0 := X.same s0
    have nLr : L ≠ rl := ne_of_none X.ls hrl
    refine ⟨_, rfl, ha, C, dx, _, _, rfl, X0.ob, T.cl, T.nS, lk_here, L, _, rfl, SqL.of X0.ls, for_it (walk_enum (K := K) (a := L) (xs := ds.map V.ref)) (fun i σ H' => ∃ (zs : List (Addr × Nat × Nat × Nat)) (v1 v2 v3 v4 : Option V), σ = [some (.ref ha), some (.int a), some (.int b), some (.ref rl), v1, v2, v3, v4] ∧ But rl H0 H' ∧ RkAt H' rl zs ∧ zs.map toF = ranks h a b i ∧ RkOk zs ∧ zs.length ≤ i)
      ⟨[], none, none, none, none, rfl, fun b o e _ => e, ⟨hn0, fun z hz => by cases hz⟩, rfl, (fun z hz => by cases hz), Nat.le_refl _⟩ (fun i σ H' _ ⟨_, _, _, _, _, _, s2, _⟩ => SqL.of (s2 _ _ X0.ls nLr)) ?_ ?_⟩
    · rintro i v σ H2 H3 hi ⟨zs, v1, v2, v3, v4, rfl, s2, ⟨hz1, hz2⟩, hzr, hzo, hzl⟩ ⟨Tp, xa, ya, rfl, hTp, rfl, exa, eya⟩
      have exa' := Option.some.inj exa
      subst exa'
      have hil : i < h.length := by rw [List.length_map, X.len] at hi; exact hi
      obtain ⟨d, sr, hs, hds, DS0, G, hat⟩ := ser_at X0 hil
      have eya : (ds.map V.ref)[i]? = some ya := eya
      rw [List.getElem?_map, hds] at eya
      have eya' : V.ref d = ya := Option.some.inj eya
      subst eya'
      have s3 := same_upd (o := .tup [.int (i : Nat), .ref d]) hTp
      have DS : DictS (upd H2 Tp (.tup [.int (i : Nat), .ref d])) d sr := by
        obtain ⟨ps, h1, h2⟩ := DS0
        exact ⟨ps, s3 _ _ (s2 _ _ h1 (fun z => by rw [z, hn0] at h1; cases h1)), h2⟩
      have hsr : (h[i]?).getD [] = sr := by rw [hs]; rfl
      have hz13 := s3 _ _ hz1
      have upT : (upd H2 Tp (.tup [.int (i : Nat), .ref d])) Tp = some (.tup [.int (i : Nat), .ref d]) := upd_same
      have b3 := s2.same s3
      have hz23 : ∀ z ∈ zs, One (upd H2 Tp (.tup [.int (i : Nat), .ref d])) z := fun z hz => (hz2 z hz).same s3
      generalize upd H2 Tp (.tup [.int (i : Nat), .ref d]) = H3 at *
      refine ⟨Tp, _, rfl, SqT.of upT, rfl, _, _, rfl, _, _, rfl, rfl, ?_⟩
      refine ⟨_, rfl, _, rfl, _, rfl, d, sr, a, b, rfl, DS, G, hab, fun et H4 s4 => ?_, fun n m et H4 p s4 hp4 => ?_⟩
      · refine ⟨_, rfl, rfl, _, rfl, ?_⟩
        refine if_false_of rfl ?_
        refine ⟨zs, _, _, _, _, rfl, b3.same s4, ⟨s4 _ _ hz13, fun z hz => (hz23 z hz).same s4⟩, ?_, hzo, by omega⟩
        rw [ranks_none (by rw [hsr]; exact et)]
        exact hzr
      · refine ⟨_, rfl, rfl, _, rfl, ?_⟩
        refine if_true_of rfl ?_
        obtain ⟨q1, q2⟩ := tot_le et G.time G.val G.len
        have qp := tot_pos et
        have hz14 := s4 _ _ hz13
        have hz24 : ∀ z ∈ zs, One H4 z := fun z hz => (hz23 z hz).same s4
        have b4 := b3.same s4
        have few := X.few
        refine while_by (fun σ H' => ∃ (j : Nat), σ = [some (.ref ha), some (.int a), some (.int b), some (.ref rl), some (.int (i : Nat)), some (.ref d), some (.ref p), some (.int (j : Nat))] ∧ H' = H4 ∧ j ≤ zs.length ∧ ∀ t z, t < j → zs[t]? = some z → (Sq37.frac n m).le (toF z).2 = true)
          (fun σ _ => match σ with | [_, _, _, _, _, _, _, some (.int r)] => zs.length - r.toNat | _ => 0) ⟨0, rfl, rfl, Nat.zero_le _, fun t z ht _ => absurd ht (Nat.not_lt_zero _)⟩ ?_ ?_
        · rintro σ H' ⟨j, rfl, rfl, hj, hall⟩
          have ins : ∀ (q : Addr) (xs : List V), (∀ z, zs[j]? = some z → (Sq37.frac n m).le (toF z).2 = false) → H' q = none → xs = ((zs.map fun z => V.ref z.1).take j ++ [V.ref q] ++ (zs.map fun z => V.ref z.1).drop j) →
              ∃ (zs' : List (Addr × Nat × Nat × Nat)), But rl H0 (upd (upd H' q (.tup [.int (i : Nat), .ref p])) rl (.lst xs)) ∧ RkAt (upd (upd H' q (.tup [.int (i : Nat), .ref p])) rl (.lst xs)) rl zs' ∧ zs'.map toF = ranks h a b (i + 1) ∧ RkOk zs' ∧ zs'.length ≤ i + 1 := by
            intro q xs hlast hq exs
            have nq : rl ≠ q := ne_of_none hz14 hq
            have hz15 := same_upd (o := .tup [.int (i : Nat), .ref p]) hq _ _ hz14
            refine ⟨zs.take j ++ [(q, i, n, m)] ++ zs.drop j, (b4.same (same_upd hq)).upd, ⟨?_, fun z hz => ?_⟩, ?_, fun z hz => ?_, ?_⟩
            · rw [upd_same, exs, List.map_append, List.map_append, List.map_take, List.map_drop]
              rfl
            · have cs : z ∈ zs ∨ z = (q, i, n, m) := by
                rcases List.mem_append.mp hz with hz | hz
                · rcases List.mem_append.mp hz with hz | hz
                  · exact .inl (List.mem_of_mem_take hz)
                  · exact .inr (List.mem_singleton.mp hz)
                · exact .inl (List.mem_of_mem_drop hz)
              rcases cs with c | c
              · exact ((hz24 z c).same (same_upd hq)).upd hz15
              · subst c
                exact One.upd ⟨p, upd_same, same_upd hq _ _ hp4⟩ hz15
            · rw [ranks_some (n := n) (d := m) (by rw [hsr]; exact et), ← hzr, rank_at (k := j) (by rw [List.length_map]; exact hj)]
              · rw [List.map_append, List.map_append, List.map_take, List.map_drop]
                rfl
              · intro t y ht hy
                rw [List.getElem?_map] at hy
                cases e : zs[t]? with
                | none => rw [e] at hy; cases hy
                | some z =>
                  rw [e] at hy
                  rw [← Option.some.inj hy]
                  exact hall t z ht e
              · intro y hy
                rw [List.getElem?_map] at hy
                cases e : zs[j]? with
                | none => rw [e] at hy; cases hy
                | some z =>
                  rw [e] at hy
                  rw [← Option.some.inj hy]
                  exact hlast z e
            · rcases List.mem_append.mp hz with hz | hz
              · rcases List.mem_append.mp hz with hz | hz
                · exact hzo z (List.mem_of_mem_take hz)
                · rw [List.mem_singleton.mp hz]
                  exact ⟨qp, q1⟩
              · exact hzo z (List.mem_of_mem_drop hz)
            · rw [List.length_append, List.length_append, List.length_take, List.length_drop]
              show min j zs.length + 1 + (zs.length - j) ≤ i + 1
              omega
          refine ⟨_, rfl, _, rfl, rl, _, rfl, .inl (SqL.of hz14), _, _, rfl, rfl, _, rfl, ?_⟩
          by_cases c : j < zs.length
          · refine if_true_of (decide_eq_true (by rw [List.length_map]; omega)) ?_
            have ez : zs[j]? = some zs[j] := List.getElem?_eq_getElem c
            generalize hze : zs[j] = z at ez
            have hzm := List.mem_of_getElem? ez
            obtain ⟨t, o1, o2⟩ := hz24 z hzm
            have hzok := hzo z hzm
            have hatj : atI (zs.map fun z => V.ref z.1) (j : Int) = some (V.ref z.1) := atI_nat (by rw [List.getElem?_map, ez]; rfl)
            refine ⟨_, rfl, _, rfl, _, rfl, rl, _, _, _, rfl, rfl, SqL.of hz14, hatj, z.1, _, _, _, rfl, rfl, SqT.of o1, at1, p, t, n, m, z.2.2.1, z.2.2.2, rfl, hp4, o2, q1, hzok.2, _, rfl, ?_⟩
            by_cases c2 : z.2.2.1 * m < n * z.2.2.2
            · refine if_false_of (by rw [decide_eq_true c2]; rfl) ?_
              refine ⟨_, rfl, .inl ⟨rfl, _, SqL.of hz14⟩, _, rfl, _, rfl, _, rfl, (by show 2 ≤ sizeLine; decide), fun q hq => ?_⟩
              refine ⟨rl, _, (j : Int), _, rfl, rfl, same_upd hq _ _ hz14, (by rw [List.length_map, szl]; omega), by omega, by omega, ?_⟩
              obtain ⟨zs', g1, g2, g3, g4, g5⟩ := ins q _ (fun z' hz' => by
                rw [ez] at hz'
                rw [← Option.some.inj hz']
                unfold toF
                rw [le_iffN qp hzok.1, decide_eq_true c2]
                rfl) hq rfl
              exact ⟨zs', _, _, _, _, rfl, g1, g2, g3, g4, g5⟩
            · refine if_true_of (by rw [decide_eq_false c2]; rfl) ?_
              refine ⟨_, rfl, _, _, rfl, rfl, ⟨j + 1, ?_, rfl, c, fun t z' ht hz' => ?_⟩, ?_⟩
              · rw [Int.natCast_add]
                rfl
              · rcases Nat.lt_or_ge t j with q | q
                · exact hall t z' q hz'
                · have : t = j := by omega
                  subst this
                  rw [ez] at hz'
                  rw [← Option.some.inj hz']
                  unfold toF
                  rw [le_iffN qp hzok.1, decide_eq_false c2]
                  rfl
              · show zs.length - ((j : Int) + 1).toNat < zs.length - ((j : Int)).toNat
                omega
          · refine if_false_of (decide_eq_false (by rw [List.length_map]; omega)) ?_
            refine if_false_of rfl ?_
            refine ⟨_, rfl, .inl ⟨rfl, _, SqL.of hz14⟩, _, rfl, _, rfl, _, rfl, (by show 2 ≤ sizeLine; decide), fun q hq => ?_⟩
            refine ⟨rl, _, (j : Int), _, rfl, rfl, same_upd hq _ _ hz14, (by rw [List.length_map, szl]; omega), by omega, by omega, ?_⟩
            obtain ⟨zs', g1, g2, g3, g4, g5⟩ := ins q _ (fun z' hz' => by
              rw [List.getElem?_eq_none (by omega)] at hz'
              cases hz') hq rfl
            exact ⟨zs', _, _, _, _, rfl, g1, g2, g3, g4, g5⟩
        · rintro σ H' Q1 Q2 hq ⟨a1, e1, a2, e2, a3, a4, e3, e4, a5, a6, e5, e6, kk, e7, hite⟩
          refine ⟨a1, e1, a2, e2, a3, a4, e3, e4, a5, a6, e5, e6, kk, e7, ?_⟩
          cases kk with
          | false => exact hq _ _ hite
          | true =>
            obtain ⟨b1, f1, b2, f2, b3, f3, b4, b5, b6, b7, f4, f5, f6, f7, b8, b9, b10, b11, f8, f9, f10, f11, b12, b13, b14, b15, b16, b17, f12, f13, f14, f15, f16, b18, f17, hQ⟩ := hite
            exact ⟨b1, f1, b2, f2, b3, f3, b4, b5, b6, b7, f4, f5, f6, f7, b8, b9, b10, b11, f8, f9, f10, f11, b12, b13, b14, b15, b16, b17, f12, f13, f14, f15, f16, b18, f17, hq _ _ hQ⟩
    · rintro σ H2 ⟨zs, v1, v2, v3, v4, rfl, s2, hz, hzr, hzo, hzl⟩
      rw [List.length_map, X.len] at hzr hzl
      have few := X.few
      refine ⟨_, rfl, k H2 rl zs (s2.new hrl s0) hrl hz hzr hzo (by omega)⟩
end
end Ac

set_option Elab.async false
set_option linter.all false
set_option maxRecDepth 100000
set_option maxHeartbeats 2000000
namespace Ac
open PySem PySem.Spec PyProof.Rows L2
/-- three numbers of each -/
def tri (l : List (Nat × Sq37.Frac)) : List Int := l.flatMap fun x => [(x.1 : Int), (x.2.n : Int), (x.2.d : Int)]
theorem tri_len : ∀ l : List (Nat × Sq37.Frac), (tri l).length = 3 * l.length
  | [] => rfl
  | x :: l => by
    have ih := tri_len l
    have e : tri (x :: l) = (x.1 : Int) :: (x.2.n : Int) :: (x.2.d : Int) :: tri l := rfl
    rw [e, List.length_cons, List.length_cons, List.length_cons, ih, List.length_cons]
    omega
theorem tri_snoc (l : List (Nat × Sq37.Frac)) (x : Nat × Sq37.Frac) : tri (l ++ [x]) = tri l ++ [(x.1 : Int), (x.2.n : Int), (x.2.d : Int)] := by
  unfold tri
  rw [List.flatMap_append]
  rfl
theorem ints_tri (l : List (Nat × Sq37.Frac)) : Sq37.ints (l.flatMap fun x => [x.1, x.2.n, x.2.d]) = tri l := by
  unfold Sq37.ints tri
  rw [List.map_flatMap]
  rfl
section
variable {P : Program} {w : World} {K : PySem.W.Frag} {mg : Str → Option Value} {base : Heap} {C : Addr}
theorem scTop : FnScope ["house", "n", "a", "b", "ranked", "many", "told", "series", "found"] ["house", "n", "a", "b"] (defScope sTop) := ⟨rfl, rfl, rfl, by decide +kernel, rfl, by decide +kernel, by decide +kernel⟩
theorem ok_top {f : Addr} {fd : FuncData} (F : Fun K "top" "top" sTop f fd) (DR : Df P w K mg base "ranked_totals" 5 ["house", "a", "b"] (spRank C)) (DW : Df P w K mg base "lowest_terms" 1 ["upper", "lower"] spLow) (mLen : mg "len" = none) (mMin : mg "min" = none) :
    FnOk P w K mg base CX0 6 f fd ["house", "n", "a", "b"] (spTopC C) := by
  refine F.ok scTop (fun vs H Q E h => ?_) (fun cdv A outer s H vs Q E hr h => ?_)
  · obtain ⟨a, h, n, x, y, rfl, _⟩ := h
    rfl
  · obtain ⟨ha, h, n, a, b, rfl, hh, k⟩ := h
    have hr1 : Room 1 _ := hr.mono (by decide)
    refine ⟨_, pss_cons (ps_if (pt_cmpR op_lt (pv 3) (pv 2) (nomark _)) (pss_one (ps_ret (pe_lst (pa_cons (pe_un un_neg pe_int) pa_nil)))) pss_nil)
      (pss_cons (ps_set (i := 4) scTop.nd rfl (Or.inl rfl) (pe_df DR hr rfl (pa_cons (pv 0) (pa_cons (pv 2) (pa_cons (pv 3) pa_nil)))))
      (pss_cons (ps_set (i := 5) scTop.nd rfl (Or.inl rfl) (pe_callB (call_min2 rfl) (by rfl) mMin (by decide +kernel) (pa_cons (pv 1) (pa_cons (pe_callB call_len_seq (by rfl) mLen PySem.boot_len (pa_cons (pv 4) pa_nil)) pa_nil))))
      (pss_cons (ps_set (i := 6) scTop.nd rfl (Or.inl rfl) (pe_lst (pa_cons (pv 5) pa_nil)))
      (pss_cons (ps_for PassesOwn.never rfl (pi_list (pe_slice sl_list (pv 4) po_none (po_some (pv 5))))
          (pg_tup (by rfl) (pgs_cons (pg_name (i := 7) scTop.nd rfl (Or.inl rfl)) (pgs_cons (pg_name (i := 8) scTop.nd rfl (Or.inl rfl)) pgs_nil)))
        (pss_cons (ps_expr (pe_bm PySem.F.plainAttrs_list PySem.F.slot_list_append PySem.F.type_list_append mt_append (pv 6) (pa_cons (pv 7) pa_nil)))
        (pss_one (ps_expr (pe_bm PySem.F.plainAttrs_list PySem.F.slot_list_extend PySem.F.type_list_extend mt_extend (pv 6) (pa_cons (pe_df DW hr1 rfl (pa_cons (pe_ix ix_tup (pv 8) pe_int (fun _ _ => rfl)) (pa_cons (pe_ix ix_tup (pv 8) pe_int (fun _ _ => rfl)) pa_nil))) pa_nil))))))
      (pss_one (ps_ret (pv 6))))))), ?_⟩
    refine ⟨_, rfl, _, rfl, _, _, rfl, rfl, _, rfl, ?_⟩
    by_cases c1 : b < a
    · refine if_true_of (decide_eq_true (by omega)) ?_
      refine ⟨_, rfl, (by show 1 ≤ sizeLine; decide), fun p hp => ?_⟩
      exact k.says (o := Sq37.says (-1)) (if_pos c1) hh (same_upd hp) hp upd_same rfl
    · refine if_false_of (decide_eq_false (by omega)) ?_
      have szl : sizeLine = 16777216 := by decide
      refine ⟨_, rfl, _, rfl, _, rfl, ha, h, a, b, rfl, hh, by omega, fun H1 p zs s1 hn1 ⟨hz1, hz2⟩ hzr hzo hzl => ?_⟩
      refine ⟨_, rfl, _, rfl, p, _, rfl, .inl (SqL.of hz1), (n : Int), _, rfl, ?_⟩
      have emany : (if (((zs.map fun z => V.ref z.1).length : Nat) : Int) < (n : Int) then (((zs.map fun z => V.ref z.1).length : Nat) : Int) else (n : Int)) = ((min n zs.length : Nat) : Int) := by
        rw [List.length_map]
        split <;> omega
      rw [emany]
      generalize hm : min n zs.length = m
      refine ⟨_, rfl, (by show 1 ≤ sizeLine; decide), fun tl htl => ?_⟩
      have s2 := same_upd (o := .lst [.int (m : Nat)]) htl
      have npt : p ≠ tl := ne_of_none hz1 htl
      refine ⟨_, rfl, _, rfl, _, rfl, p, _, rfl, SqL.of (s2 _ _ hz1), fun c hc => ?_⟩
      rw [cut_take, ← List.map_take]
      have s3 := same_upd (o := .lst ((zs.take m).map fun z => V.ref z.1)) hc
      have hc3 : (upd (upd H1 tl (.lst [.int (m : Nat)])) c (.lst ((zs.take m).map fun z => V.ref z.1))) c = some (.lst ((zs.take m).map fun z => V.ref z.1)) := upd_same
      have ht3 := s3 tl _ upd_same
      have nct : c ≠ tl := (ne_of_none upd_same hc).symm
      have hz3 : ∀ z ∈ zs, One (upd (upd H1 tl (.lst [.int (m : Nat)])) c (.lst ((zs.take m).map fun z => V.ref z.1))) z := fun z hz => (hz2 z hz).same (s2.trans s3)
      have s4 := s1.trans (s2.trans s3)
      generalize upd (upd H1 tl (.lst [.int (m : Nat)])) c (.lst ((zs.take m).map fun z => V.ref z.1)) = H3 at *
      have lm : (zs.take m).length = m := by rw [List.length_take]; omega
      refine ⟨c, rfl, ⟨_, SqL.of hc3⟩, for_list (K := K) (a := c) (xs := (zs.take m).map fun z => V.ref z.1) (fun i σ H' => ∃ (v1 v2 : Option V), σ = [some (.ref ha), some (.int n), some (.int a), some (.int b), some (.ref p), some (.int (m : Nat)), some (.ref tl), v1, v2] ∧ But tl H3 H' ∧ i ≤ m ∧ H' tl = some (.lst (.int (m : Nat) :: (tri (((zs.take m).take i).map toF)).map V.int)))
        ⟨none, none, rfl, fun b o e _ => e, Nat.zero_le _, ht3⟩ (fun i σ H' _ ⟨_, _, _, b2, _⟩ => SqL.of (b2 _ _ hc3 nct)) ?_ ?_⟩
      · rintro i v σ H4 hi ⟨v1, v2, rfl, b4, hle, ht4⟩
        rw [List.getElem?_map] at hi
        cases eq : (zs.take m)[i]? with
        | none => rw [eq] at hi; cases hi
        | some z =>
          rw [eq] at hi
          have ev : V.ref z.1 = v := Option.some.inj hi
          subst ev
          have hil : i < (zs.take m).length := (List.getElem?_eq_some_iff.mp eq).1
          have hzm : z ∈ zs := List.mem_of_mem_take (List.mem_of_getElem? eq)
          obtain ⟨t, o1, o2⟩ := (hz3 z hzm).but ht3 b4
          obtain ⟨p1, p2⟩ := hzo z hzm
          have tk : (tri (((zs.take m).take i).map toF)).length ≤ 24 := by
            rw [tri_len, List.length_map, List.length_take]
            omega
          refine ⟨z.1, _, rfl, SqT.of o1, rfl, _, _, rfl, _, _, rfl, rfl, ?_⟩
          refine ⟨_, rfl, .inl ⟨rfl, _, SqL.of ht4⟩, _, rfl, tl, _, _, rfl, rfl, ht4, (by rw [List.length_cons, List.length_map, szl]; omega), ?_⟩
          have ntt : t ≠ tl := fun q => by rw [q, ht4] at o2; cases o2
          refine ⟨_, rfl, .inl ⟨rfl, _, SqL.of upd_same⟩, _, rfl, t, _, _, _, rfl, rfl, SqT.of (by rw [upd_ne ntt]; exact o2), at0, _, rfl, t, _, _, _, rfl, rfl, SqT.of (by rw [upd_ne ntt]; exact o2), at1, z.2.2.1, z.2.2.2, rfl, p1, Nat.lt_of_le_of_lt p2 (Nat.lt_of_lt_of_le (show 1000000000000 < 2 ^ 40 by decide) (Nat.pow_le_pow_right (by decide) (by decide))), fun H6 q s6 hn6 hq6 => ?_⟩
          refine ⟨tl, q, _, _, rfl, rfl, s6 _ _ upd_same, hq6, (by rw [List.length_append, List.length_cons, List.length_map, szl]; show _ + 1 + 1 + 2 ≤ _; omega), ?_⟩
          refine ⟨some (.int (z.2.1 : Nat)), some (.ref t), rfl, (b4.upd.same s6).upd, by omega, ?_⟩
          rw [upd_same, List.take_add_one, eq]
          show _ = some (HO.lst (V.int (m : Nat) :: (tri (((zs.take m).take i ++ [z]).map toF)).map V.int))
          rw [List.map_append, List.map_singleton, tri_snoc, List.map_append, List.append_assoc]
          rfl
      · rintro σ H4 ⟨v1, v2, rfl, b4, hle, ht4⟩
        rw [List.length_map, List.take_length] at ht4
        have el : (ranks h a b h.length).take n = (zs.take m).map toF := by
          rw [← hzr, List.map_take, ← hm, List.take_eq_take_min, List.length_map]
        refine ⟨_, rfl, ?_⟩
        have est : h.step (.top n a b) = (h, ⟨((ranks h a b h.length).take n).length, Sq37.ints (((ranks h a b h.length).take n).flatMap fun x : Nat × Sq37.Frac => [x.1, x.2.n, x.2.d])⟩) := (if_neg c1).trans rfl
        rw [ints_tri, el] at est
        refine k.says est hh (b4.new (s1.free htl) s4) (s1.free htl) ht4 ?_
        rw [List.length_map, lm]
        rfl
end
end Ac

set_option Elab.async false
set_option linter.all false
set_option maxRecDepth 100000
set_option maxHeartbeats 2000000
namespace Ac
open PySem PySem.Spec PyProof.Rows L2
abbrev sSum : Stmt := top 26
def spSumC (K : PySem.W.Frag) (C : Addr) : Sp := fun vs H Q _ => ∃ (ha l : Addr) (h : Sq37.House) (a b : Nat) (ns : List Nat), vs = [.ref ha, .int a, .int b, .ref l] ∧ IsHouse C H ha h ∧ H l = some (.lst ((ns.map fun n : Nat => (n : Int)).map V.int)) ∧ ns.length ≤ 1024 ∧ Ans C H ha h (.sum a b ns) Q
theorem count_cast (m : Nat) : ∀ ns : List Nat, (ns.map fun n : Nat => (n : Int)).count (m : Int) = ns.count m
  | [] => rfl
  | x :: ns => by
    rw [List.map_cons, List.count_cons, List.count_cons, count_cast m ns]
    congr 1
    by_cases c : x = m
    · rw [c, if_pos (beq_self_eq_true _), if_pos (beq_self_eq_true _)]
    · rw [if_neg (by simp; omega), if_neg (by simpa using c)]
section
variable {P : Program} {w : World} {K : PySem.W.Frag} {mg : Str → Option Value} {base : Heap} {C : Addr}
theorem scSum : FnScope ["house", "a", "b", "some", "upper", "lower", "series", "samples", "often", "found"] ["house", "a", "b", "some"] (defScope sSum) := ⟨rfl, rfl, rfl, by decide +kernel, rfl, by decide +kernel, by decide +kernel⟩
theorem ok_sum {f : Addr} {fd : FuncData} (F : Fun K "sum_of" "sum_of" sSum f fd) (T : TxtH K C) (DL : Df P w K mg base "lacks" 1 ["house", "series"] (spLacks C)) (DT : Df P w K mg base "total_between" 4 ["samples", "a", "b"] spTot) (DW : Df P w K mg base "lowest_terms" 1 ["upper", "lower"] spLow) (mAny : mg "any" = none) (mE : mg "enumerate" = none) :
    FnOk P w K mg base CX0 5 f fd ["house", "a", "b", "some"] (spSumC K C) := by
  refine F.ok scSum (fun vs H Q E h => ?_) (fun cdv A outer s H vs Q E hr h => ?_)
  · obtain ⟨a, l, h, x, y, ns, rfl, _⟩ := h
    rfl
  · obtain ⟨ha, l, h, a, b, ns, rfl, hh, hl, hnl, k⟩ := h
    have hr1 : Room 1 _ := hr.mono (by decide)
    refine ⟨_, pss_cons (ps_if (pt_cmpR op_lt (pv 2) (pv 1) (nomark _)) (pss_one (ps_ret (pe_lst (pa_cons (pe_un un_neg pe_int) pa_nil)))) pss_nil)
      (pss_cons (ps_if (pt_val (pe_callB (cr_any rfl) (by rfl) mAny (by decide +kernel) (pa_cons (pe_lc (own := [("series", 6)]) (g := gName 6) (tt := tYes) rfl scSum.nd (pi_list (pv 3)) (blkOk_by (N := ["house", "a", "b", "some", "upper", "lower", "series", "samples", "often", "found"]) (sc := defScope sSum) (own := [("series", 6)]) (by decide +kernel))
          (fun _ _ _ _ _ => pg_name (i := 6) scSum.nd rfl (Or.inl rfl)) (fun _ _ _ _ _ => pts_nil) (fun _ _ _ _ _ => pe_df DL hr1 rfl (pa_cons (pv 0) (pa_cons (pv 6) pa_nil)))) pa_nil)))
        (pss_one (ps_ret (pe_lst (pa_cons (pe_un un_neg pe_int) pa_nil)))) pss_nil)
      (pss_cons (ps_set (i := 4) scSum.nd rfl (Or.inl rfl) pe_int)
      (pss_cons (ps_set (i := 5) scSum.nd rfl (Or.inl rfl) pe_int)
      (pss_cons (ps_for PassesOwn.never rfl (pi_enum (by rfl) mE (pa_cons (pe_fld (pv 0) rfl) pa_nil))
          (pg_tup (by rfl) (pgs_cons (pg_name (i := 6) scSum.nd rfl (Or.inl rfl)) (pgs_cons (pg_name (i := 7) scSum.nd rfl (Or.inl rfl)) pgs_nil)))
        (pss_cons (ps_set (i := 8) scSum.nd rfl (Or.inl rfl) (pe_bm PySem.F.plainAttrs_list PySem.F.slot_list_count PySem.F.type_list_count mt_lcount (pv 3) (pa_cons (pv 6) pa_nil)))
        (pss_one (ps_if (pt_cmpR op_gt (pv 8) pe_int (nomark _))
          (pss_cons (ps_set (i := 9) scSum.nd rfl (Or.inl rfl) (pe_df DT hr rfl (pa_cons (pv 7) (pa_cons (pv 1) (pa_cons (pv 2) pa_nil)))))
          (pss_cons (ps_if (pt_cmpR op_isN (pv 9) pe_non (nomark _)) (pss_one (ps_ret (pe_lst (pa_cons (pe_un un_neg pe_int) pa_nil)))) pss_nil)
          (pss_cons (ps_set (i := 4) scSum.nd rfl (Or.inl rfl) (pe_op op_add (pe_op op_mul (pv 4) (pe_ix ix_tup (pv 9) pe_int (fun _ _ => rfl))) (pe_op op_mulW (pe_op op_mul (pv 8) (pe_ix ix_tup (pv 9) pe_int (fun _ _ => rfl))) (pv 5))))
          (pss_one (ps_set (i := 5) scSum.nd rfl (Or.inl rfl) (pe_op op_mul (pv 5) (pe_ix ix_tup (pv 9) pe_int (fun _ _ => rfl))))))))
          pss_nil))))
      (pss_one (ps_ret (pe_df DW hr1 rfl (pa_cons (pv 4) (pa_cons (pv 5) pa_nil))))))))), ?_⟩
    refine ⟨_, rfl, _, rfl, _, _, rfl, rfl, _, rfl, ?_⟩
    by_cases c1 : b < a
    · refine if_true_of (decide_eq_true (by omega)) ?_
      refine ⟨_, rfl, (by show 1 ≤ sizeLine; decide), fun p hp => ?_⟩
      exact k.says (o := Sq37.says (-1)) (if_pos c1) hh (same_upd hp) hp upd_same rfl
    · refine if_false_of (decide_eq_false (by omega)) ?_
      have szl : sizeLine = 16777216 := by decide
      obtain ⟨dx, L, ds, X⟩ := id hh
      refine ⟨_, rfl, l, rfl, ⟨_, SqL.of hl⟩, fun D hD => ?_⟩
      refine lc_list (K := K) (a := l) (xs := (ns.map fun n : Nat => (n : Int)).map V.int) (fun i H' => Same H H' ∧ H' D = some (.lst ((ns.take i).map fun n => V.bl (decide (h.length ≤ n))))) ⟨same_upd hD, upd_same⟩ (fun i H' _ p => SqL.of (p.1 _ _ hl)) ?_ ?_
      · rintro i v H1 hi ⟨s1, hd1⟩
        rw [List.getElem?_map, List.getElem?_map] at hi
        cases eq : ns[i]? with
        | none => rw [eq] at hi; cases hi
        | some n =>
          rw [eq] at hi
          have ev : V.int (n : Int) = v := Option.some.inj hi
          subst ev
          have hin := (List.getElem?_eq_some_iff.mp eq).1
          refine ⟨rfl, _, rfl, _, rfl, ha, h, n, rfl, hh.same s1, _, hd1, (by rw [List.length_map, List.length_take, szl]; omega), ?_, ?_⟩
          · intro b o e
            rw [upd_ne (ne_of_none e hD)]
            exact s1 b o e
          · rw [upd_same, List.take_add_one, eq]
            show _ = some (HO.lst ((ns.take i ++ [n]).map fun n => V.bl (decide (h.length ≤ n))))
            rw [List.map_append]
            rfl
      · rintro H1 ⟨s1, hd1⟩
        rw [List.length_map, List.length_map, List.take_length] at hd1
        have ebl : (ns.map fun n => V.bl (decide (h.length ≤ n))) = (ns.map fun n => decide (h.length ≤ n)).map V.bl := by rw [List.map_map]; rfl
        refine ⟨D, ns.map fun n => decide (h.length ≤ n), rfl, SqL.of (by rw [hd1, ebl]), _, rfl, ?_⟩
        have eany : (ns.map fun n => decide (h.length ≤ n)).any id = ns.any fun s => decide (h.length ≤ s) := by rw [List.any_map]; rfl
        rw [eany]
        by_cases c2 : (ns.any fun s => decide (h.length ≤ s)) = true
        · refine if_true_of c2 ?_
          refine ⟨_, rfl, (by show 1 ≤ sizeLine; decide), fun p hp => ?_⟩
          exact k.says (o := Sq37.says (-2)) ((if_neg c1).trans (if_pos c2)) hh (s1.trans (same_upd hp)) (s1.free hp) upd_same rfl
        · refine if_false_of (by simpa using c2) ?_
          have hin : ∀ x ∈ ns, x < h.length := fun x hx => by
            have := List.any_eq_false.mp (by simpa using c2 : (ns.any fun s => decide (h.length ≤ s)) = false) x hx
            simpa using this
          have est : h.step (.sum a b ns) = (match Sq37.every (ns.map fun s => Sq37.total ((h[s]?).getD []) a b) with
            | none => (h, Sq37.says (-3))
            | some f => (h, Sq37.told f)) := (if_neg c1).trans (if_neg c2)
          have X1 := X.same s1
          have hl1 := s1 _ _ hl
          have few := X.few
          refine ⟨_, rfl, ha, C, dx, _, _, rfl, X1.ob, T.cl, T.nS, lk_here, L, _, rfl, SqL.of X1.ls, for_it (walk_enum (K := K) (a := L) (xs := ds.map V.ref)) (fun i σ H' => ∃ (U W : Nat) (v1 v2 v3 v4 : Option V), σ = [some (.ref ha), some (.int a), some (.int b), some (.ref l), some (.int (U : Nat)), some (.int (W : Nat)), v1, v2, v3, v4] ∧ Same H1 H' ∧ 0 < W ∧ W ≤ 2 ^ (40 * i) ∧ Sq37.frac U W = Sq37.frac (csum (upN h a b) ns i) (dprod a b h) ∧ ∀ j, j < i → 0 < ns.count j → tot ((h[j]?).getD []) a b ≠ none)
            ⟨0, 1, none, none, none, none, rfl, Same.refl _, Nat.one_pos, Nat.le_refl _, ?_, fun j hj => absurd hj (Nat.not_lt_zero _)⟩ (fun i σ H' _ ⟨_, _, _, _, _, _, _, s2, _⟩ => SqL.of (s2 _ _ X1.ls)) ?_ ?_⟩
          · exact frac_same Nat.one_pos (dprod_pos h) (by show 0 * _ = 0 * 1; rw [Nat.zero_mul, Nat.zero_mul])
          · rintro i v σ H2 H3 hi ⟨U, W, v1, v2, v3, v4, rfl, s2, hW, hWb, hU, hkn⟩ ⟨Tp, xa, ya, rfl, hTp, rfl, exa, eya⟩
            have exa' := Option.some.inj exa
            subst exa'
            have hil : i < h.length := by rw [List.length_map, X.len] at hi; exact hi
            obtain ⟨d, sr, hs, hds, DS0, G, hat⟩ := ser_at X1 hil
            have eya : (ds.map V.ref)[i]? = some ya := eya
            rw [List.getElem?_map, hds] at eya
            have eya' : V.ref d = ya := Option.some.inj eya
            subst eya'
            have s3 := s2.trans (same_upd (o := .tup [.int (i : Nat), .ref d]) hTp)
            have hsr : (h[i]?).getD [] = sr := by rw [hs]; rfl
            have upT : (upd H2 Tp (.tup [.int (i : Nat), .ref d])) Tp = some (.tup [.int (i : Nat), .ref d]) := upd_same
            generalize upd H2 Tp (.tup [.int (i : Nat), .ref d]) = H3 at *
            have hl3 := s3 _ _ hl1
            refine ⟨Tp, _, rfl, SqT.of upT, rfl, _, _, rfl, _, _, rfl, rfl, ?_⟩
            refine ⟨_, rfl, .inl ⟨rfl, _, SqL.of hl3⟩, _, rfl, l, _, (i : Int), rfl, rfl, SqL.of hl3, ?_⟩
            rw [count_cast]
            have cl : ns.count i ≤ 1024 := Nat.le_trans List.count_le_length hnl
            refine ⟨_, rfl, _, _, rfl, rfl, _, rfl, ?_⟩
            by_cases c : 0 < ns.count i
            · refine if_true_of (decide_eq_true (by omega)) ?_
              have him : i ∈ ns := List.count_pos_iff.mp c
              refine ⟨_, rfl, _, rfl, _, rfl, d, sr, a, b, rfl, DS0.same s3, G, by omega, fun et H4 s4 => ?_, fun n m et H4 p s4 hp4 => ?_⟩
              · refine ⟨_, rfl, rfl, _, rfl, ?_⟩
                refine if_true_of (decide_eq_true rfl) ?_
                have sA := s1.trans (s3.trans s4)
                refine ⟨_, rfl, (by show 1 ≤ sizeLine; decide), fun p hp => ?_⟩
                refine k.says (o := Sq37.says (-3)) (est.trans ?_) hh (sA.trans (same_upd hp)) (sA.free hp) upd_same rfl
                rw [every_none]
                refine List.mem_map.mpr ⟨i, him, ?_⟩
                rw [hsr, total_tot, et]
                rfl
              · refine ⟨_, rfl, rfl, _, rfl, ?_⟩
                refine if_false_of (decide_eq_false (by intro z; cases z)) ?_
                obtain ⟨q1, q2⟩ := tot_le et G.time G.val G.len
                have qp := tot_pos et
                have hcn : ns.count i * n ≤ 1024 * 60000000000000000000000 := Nat.mul_le_mul cl q2
                have w1 : ((ns.count i : Nat) * (n : Nat) : Int).natAbs < 2 ^ 87 := by
                  rw [← Int.natCast_mul, Int.natAbs_natCast]
                  exact Nat.lt_of_le_of_lt hcn (by decide)
                have w2 : ((W : Nat) : Int).natAbs < 2 ^ 400 := by
                  rw [Int.natAbs_natCast]
                  exact Nat.lt_of_le_of_lt hWb (Nat.pow_lt_pow_right (by decide) (by omega))
                refine ⟨_, rfl, _, rfl, p, _, _, _, rfl, rfl, SqT.of hp4, at1, _, _, rfl, rfl, .inr ⟨by omega, by omega⟩, _, rfl, _, rfl, p, _, _, _, rfl, rfl, SqT.of hp4, at0, _, _, rfl, rfl, .inl ⟨by omega, by omega⟩, _, rfl, _, _, rfl, rfl, wide_mul w1 w2 (by decide) (by decide) (by decide), _, _, rfl, rfl, ?_⟩
                refine ⟨_, rfl, _, rfl, p, _, _, _, rfl, rfl, SqT.of hp4, at1, _, _, rfl, rfl, .inr ⟨by omega, by omega⟩, ?_⟩
                refine ⟨U * m + ns.count i * n * W, W * m, some (.int (i : Nat)), some (.ref d), some (.int (ns.count i : Nat)), some (.ref p), ?_, s3.trans s4, Nat.mul_pos hW qp, ?_, ?_, fun j hj hcj => ?_⟩
                · rw [Int.natCast_add, Int.natCast_mul U, Int.natCast_mul (ns.count i * n), Int.natCast_mul (ns.count i), Int.natCast_mul W]
                  rfl
                · rw [Nat.mul_add, Nat.pow_add]
                  exact Nat.mul_le_mul hWb (Nat.le_trans q1 (by decide))
                · exact sum_step hW hil (by rw [hsr]; exact et) hU
                · rcases Nat.lt_or_ge j i with z | z
                  · exact hkn j z hcj
                  · have : j = i := by omega
                    subst this
                    rw [hsr, et]
                    intro z
                    cases z
            · refine if_false_of (decide_eq_false (by omega)) ?_
              refine ⟨U, W, _, _, _, _, rfl, s3, hW, Nat.le_trans hWb (Nat.pow_le_pow_right (by decide) (by omega)), ?_, fun j hj hcj => ?_⟩
              · rw [hU]
                show _ = Sq37.frac (csum (upN h a b) ns i + ns.count i * upN h a b i) _
                rw [show ns.count i = 0 by omega, Nat.zero_mul, Nat.add_zero]
              · rcases Nat.lt_or_ge j i with z | z
                · exact hkn j z hcj
                · have : j = i := by omega
                  subst this
                  exact absurd hcj c
          · rintro σ H2 ⟨U, W, v1, v2, v3, v4, rfl, s2, hW, hWb, hU, hkn⟩
            rw [List.length_map, X.len] at hU hWb hkn
            refine ⟨_, rfl, _, rfl, U, W, rfl, hW, Nat.lt_of_le_of_lt hWb (Nat.pow_lt_pow_right (by decide) (by omega)), fun H3 p s3 hn3 hp3 => ?_⟩
            refine k.says (o := Sq37.told (Sq37.frac U W)) (est.trans ?_) hh (s1.trans (s2.trans s3)) ((s1.trans s2).free hn3) hp3 rfl
            rw [sum_all hin (fun x hx => hkn x (hin x hx) (List.count_pos_iff.mpr hx)), ← hU]
end
end Ac

set_option Elab.async false
set_option linter.all false
set_option maxRecDepth 100000
set_option maxHeartbeats 2000000
namespace Ac
open PySem PySem.Spec PyProof.Rows L2
abbrev sMost : Stmt := top 24
def spMostC (C : Addr) : Sp := fun vs H Q _ => ∃ (a : Addr) (h : Sq37.House) (s w : Nat), vs = [.ref a, .int s, .int w] ∧ IsHouse C H a h ∧ Ans C H a h (.most s w) Q
/-- t was among the first i -/
def Seen (ts : List Int) (i t : Nat) : Prop := ∃ j, j < i ∧ ts[j]? = some (t : Int)
/-- the best so far: its beginning, its fraction, where that stands -/
abbrev Best := Option (Nat × Nat × Nat × Addr)
def vB : Best → V
  | none => .int 0
  | some x => .int (x.1 : Nat)
def vG : Best → V
  | none => .non
  | some x => .ref x.2.2.2
def BInv (sr : Sq37.Series) (w : Nat) (ts : List Int) (H : Hp) (i : Nat) : Best → Prop
  | none => ∀ t f, Seen ts i t → Sq37.total sr t (t + w) = some f → False
  | some x => H x.2.2.2 = some (.tup [.int (x.2.1 : Nat), .int (x.2.2.1 : Nat)]) ∧ tot sr x.1 (x.1 + w) = some (x.2.1, x.2.2.1) ∧ Seen ts i x.1 ∧
    ∀ t f, Seen ts i t → Sq37.total sr t (t + w) = some f → ¬ better (t, f) (x.1, Sq37.frac x.2.1 x.2.2.1)
section
variable {sr : Sq37.Series} {w : Nat} {ts : List Int} {H : Hp} {i : Nat}
theorem Seen.up {t : Nat} (h : Seen ts i t) : Seen ts (i + 1) t := let ⟨j, h1, h2⟩ := h; ⟨j, by omega, h2⟩
theorem Seen.cs {t : Nat} (h : Seen ts (i + 1) t) : Seen ts i t ∨ ts[i]? = some (t : Int) := by
  obtain ⟨j, h1, h2⟩ := h
  rcases Nat.lt_or_ge j i with c | c
  · exact .inl ⟨j, c, h2⟩
  · have : j = i := by omega
    subst this
    exact .inr h2
theorem BInv.same {H' : Hp} {b : Best} (h : BInv sr w ts H i b) (e : Same H H') : BInv sr w ts H' i b := by
  cases b with
  | none => exact h
  | some x => exact ⟨e _ _ h.1, h.2⟩
theorem BInv.skip {b : Best} (h : BInv sr w ts H i b) (hn : ∀ (t : Nat) f, ts[i]? = some (t : Int) → Sq37.total sr t (t + w) = some f → False) : BInv sr w ts H (i + 1) b := by
  cases b with
  | none =>
    intro t f hs ht
    rcases hs.cs with c | c
    · exact h t f c ht
    · exact hn t f c ht
  | some x =>
    refine ⟨h.1, h.2.1, h.2.2.1.up, fun t f hs ht => ?_⟩
    rcases hs.cs with c | c
    · exact h.2.2.2 t f c ht
    · exact absurd ht (fun z => hn t f c z)
theorem total_of {t n m : Nat} (et : tot sr t (t + w) = some (n, m)) : Sq37.total sr t (t + w) = some (Sq37.frac n m) := by
  rw [total_tot, et]
  rfl
theorem BInv.first {t n m : Nat} {p : Addr} (h : BInv sr w ts H i none) (ht : ts[i]? = some (t : Int)) (et : tot sr t (t + w) = some (n, m)) (hp : H p = some (.tup [.int (n : Nat), .int (m : Nat)])) : BInv sr w ts H (i + 1) (some (t, n, m, p)) := by
  refine ⟨hp, et, ⟨i, by omega, ht⟩, fun t' f hs ht' => ?_⟩
  rcases hs.cs with c | c
  · exact absurd ht' (fun z => h t' f c z)
  · rw [ht] at c
    have e : t = t' := by have := Option.some.inj c; omega
    subst e
    rw [total_of et] at ht'
    rw [← Option.some.inj ht']
    exact better_irrefl _
theorem BInv.more {t n m : Nat} {p : Addr} {x : Nat × Nat × Nat × Addr} (h : BInv sr w ts H i (some x)) (ht : ts[i]? = some (t : Int)) (et : tot sr t (t + w) = some (n, m)) (hp : H p = some (.tup [.int (n : Nat), .int (m : Nat)])) (hx : x.2.1 * m < n * x.2.2.1) : BInv sr w ts H (i + 1) (some (t, n, m, p)) := by
  obtain ⟨h1, h2, h3, h4⟩ := h
  have bt : better (t, Sq37.frac n m) (x.1, Sq37.frac x.2.1 x.2.2.1) := by
    refine .inl ?_
    show (Sq37.frac n m).le (Sq37.frac x.2.1 x.2.2.1) = false
    rw [le_iffN (tot_pos et) (tot_pos h2), decide_eq_true hx]
    rfl
  refine ⟨hp, et, ⟨i, by omega, ht⟩, fun t' f hs ht' => ?_⟩
  rcases hs.cs with c | c
  · exact better_trans (total_can ht').pos (frac_pos (tot_pos h2)) (frac_pos (tot_pos et)) (h4 t' f c ht') (better_asymm bt)
  · rw [ht] at c
    have e : t = t' := by have := Option.some.inj c; omega
    subst e
    rw [total_of et] at ht'
    rw [← Option.some.inj ht']
    exact better_irrefl _
theorem BInv.stay {t n m : Nat} {x : Nat × Nat × Nat × Addr} (h : BInv sr w ts H i (some x)) (srt : ts.Pairwise (· ≤ ·)) (ht : ts[i]? = some (t : Int)) (et : tot sr t (t + w) = some (n, m)) (hx : ¬ x.2.1 * m < n * x.2.2.1) : BInv sr w ts H (i + 1) (some x) := by
  obtain ⟨h1, h2, h3, h4⟩ := h
  refine ⟨h1, h2, h3.up, fun t' f hs ht' => ?_⟩
  rcases hs.cs with c | c
  · exact h4 t' f c ht'
  · rw [ht] at c
    have e : t = t' := by have := Option.some.inj c; omega
    subst e
    rw [total_of et] at ht'
    rw [← Option.some.inj ht']
    obtain ⟨j, hj, hj2⟩ := h3
    have le : x.1 ≤ t := by
      obtain ⟨l1, e1⟩ := List.getElem?_eq_some_iff.mp hj2
      obtain ⟨l2, e2⟩ := List.getElem?_eq_some_iff.mp ht
      have := List.pairwise_iff_getElem.mp srt j i l1 l2 hj
      rw [e1, e2] at this
      omega
    rintro (q | ⟨_, q⟩)
    · have q' : (Sq37.frac n m).le (Sq37.frac x.2.1 x.2.2.1) = false := q
      rw [le_iffN (tot_pos et) (tot_pos h2), decide_eq_false hx] at q'
      cases q'
    · have q' : t < x.1 := q
      omega
end
section
variable {P : Program} {w : World} {K : PySem.W.Frag} {mg : Str → Option Value} {base : Heap} {C : Addr}
theorem scMost : FnScope ["house", "series", "w", "samples", "begins", "greatest", "t", "found", "time"] ["house", "series", "w"] (defScope sMost) := ⟨rfl, rfl, rfl, by decide +kernel, rfl, by decide +kernel, by decide +kernel⟩
theorem ok_most {f : Addr} {fd : FuncData} (F : Fun K "most" "most" sMost f fd) (T : TxtH K C) (DL : Df P w K mg base "lacks" 1 ["house", "series"] (spLacks C)) (DT : Df P w K mg base "total_between" 4 ["samples", "a", "b"] spTotI) (DX : Df P w K mg base "exceeds" 1 ["one", "other"] spExc) (DW : Df P w K mg base "lowest_terms" 1 ["upper", "lower"] spLow) (mS : mg "sorted" = none) (mL : mg "list" = none) :
    FnOk P w K mg base CX0 5 f fd ["house", "series", "w"] (spMostC C) := by
  refine F.ok scMost (fun vs H Q E h => ?_) (fun cdv A outer s H vs Q E hr h => ?_)
  · obtain ⟨a, h, n, x, rfl, _⟩ := h
    rfl
  · obtain ⟨ha, h, sn, wd, rfl, hh, k⟩ := h
    have hr1 : Room 1 _ := hr.mono (by decide)
    refine ⟨_, pss_cons (ps_if (pt_val (pe_df DL hr1 rfl (pa_cons (pv 0) (pa_cons (pv 1) pa_nil)))) (pss_one (ps_ret (pe_lst (pa_cons (pe_un un_neg pe_int) pa_nil)))) pss_nil)
      (pss_cons (ps_if (pt_cmpR op_eq (pv 2) pe_int (nomark _)) (pss_one (ps_ret (pe_lst (pa_cons (pe_un un_neg pe_int) pa_nil)))) pss_nil)
      (pss_cons (ps_set (i := 3) scMost.nd rfl (Or.inl rfl) (pe_ix ix_list (pe_fld (pv 0) rfl) (pv 1) (fun _ _ => rfl)))
      (pss_cons (ps_set (i := 4) scMost.nd rfl (Or.inl rfl) pe_int)
      (pss_cons (ps_set (i := 5) scMost.nd rfl (Or.inl rfl) pe_non)
      (pss_cons (ps_for PassesOwn.never rfl (pi_list (pe_callB cr_sortedI (by rfl) mS (by decide +kernel) (pa_cons
            (pe_op op_cat (pe_callTy (call_list_dK rfl) (by rfl) mL (by decide +kernel) (pa_cons (pv 3) pa_nil))
              (pe_lock (pe_lc (own := [("time", 8)]) (g := gName 8) (tt := tYes) rfl scMost.nd (pi_keys (pv 3)) (blkOk_by (N := ["house", "series", "w", "samples", "begins", "greatest", "t", "found", "time"]) (sc := defScope sMost) (own := [("time", 8)]) (by decide +kernel))
                (fun _ _ _ _ _ => pg_name (i := 8) scMost.nd rfl (Or.inl rfl)) (fun _ _ _ _ _ => pts_nil) (fun _ _ _ _ _ => pe_op op_sub (pv 8) (pv 2))))) pa_nil)))
          (pg_name (i := 6) scMost.nd rfl (Or.inl rfl))
        (pss_cons (ps_set (i := 7) scMost.nd rfl (Or.inl rfl) (pe_df DT hr rfl (pa_cons (pv 3) (pa_cons (pv 6) (pa_cons (pe_op op_add (pv 6) (pv 2)) pa_nil)))))
        (pss_one (ps_if (PW.pt (pw_and (pt_cmpR op_notN (pv 7) pe_non (nomark _)) (pw_and1 (PW.pt (pw_or (pt_cmpR op_isN (pv 5) pe_non (nomark _)) (pw_or1 (pt_val (pe_df DX hr1 rfl (pa_cons (pv 7) (pa_cons (pv 5) pa_nil))))))))))
          (pss_cons (ps_set (i := 4) scMost.nd rfl (Or.inl rfl) (pv 6))
          (pss_one (ps_set (i := 5) scMost.nd rfl (Or.inl rfl) (pv 7))))
          pss_nil))))
      (pss_cons (ps_if (pt_cmpR op_isN (pv 5) pe_non (nomark _)) (pss_one (ps_ret (pe_lst (pa_cons (pe_un un_neg pe_int) pa_nil)))) pss_nil)
      (pss_one (ps_ret (pe_op op_cat (pe_lst (pa_cons (pv 4) pa_nil)) (pe_df DW hr1 rfl (pa_cons (pe_ix ix_tup (pv 5) pe_int (fun _ _ => rfl)) (pa_cons (pe_ix ix_tup (pv 5) pe_int (fun _ _ => rfl)) pa_nil)))))))))))), ?_⟩
    refine ⟨_, rfl, _, rfl, ha, h, sn, rfl, hh, _, rfl, ?_⟩
    by_cases c0 : h.length ≤ sn
    · refine if_true_of (decide_eq_true c0) ?_
      refine ⟨_, rfl, (by show 1 ≤ sizeLine; decide), fun p hp => ?_⟩
      exact k.says (o := Sq37.says (-2)) (at_none c0) hh (same_upd hp) hp upd_same rfl
    · refine if_false_of (decide_eq_false c0) ?_
      obtain ⟨dx, L, ds, X⟩ := id hh
      obtain ⟨d, sr, hs, hds, ⟨ps, hd, hpm⟩, G, hat⟩ := ser_at X (show sn < h.length by omega)
      have szl : sizeLine = 16777216 := by decide
      have lps : ps.length ≤ 60 := by have := hpm.length_eq; rw [List.length_map] at this; have := G.len; omega
      refine ⟨_, rfl, rfl, _, rfl, ?_⟩
      by_cases c1 : wd = 0
      · refine if_true_of (decide_eq_true (by rw [c1]; rfl)) ?_
        refine ⟨_, rfl, (by show 1 ≤ sizeLine; decide), fun p hp => ?_⟩
        refine k.says (o := Sq37.says (-1)) ((at_some hs).trans ?_) hh (same_upd hp) hp upd_same rfl
        exact if_pos c1
      · refine if_false_of (decide_eq_false (fun z => c1 (by have := V.int.inj z; omega))) ?_
        have est : h.step (.most sn wd) = (match Sq37.most sr wd with
          | none => (h, Sq37.says (-3))
          | some x => (h, ⟨x.1, Sq37.ints [x.2.n, x.2.d]⟩)) := (at_some hs).trans (if_neg c1)
        refine ⟨_, rfl, ha, C, dx, _, _, rfl, X.ob, T.cl, T.nS, lk_here, _, rfl, L, _, _, _, rfl, rfl, SqL.of X.ls, hat, ?_⟩
        -- list(samples)
        refine ⟨_, rfl, d, _, rfl, hd, fun p1 hp1 => ?_⟩
        have s1 := same_upd (o := .lst ((ps.map entK).map fun kv => kV kv.1)) hp1
        have hl1 : (upd H p1 (.lst ((ps.map entK).map fun kv => kV kv.1))) p1 = some (.lst ((ps.map entK).map fun kv => kV kv.1)) := upd_same
        generalize upd H p1 (.lst ((ps.map entK).map fun kv => kV kv.1)) = H1 at *
        -- the comprehension, under its lock
        refine ⟨d, _, s1 _ _ hd, trivial, fun od => ?_⟩
        have n1d : p1 ≠ d := fun z => by rw [z, s1 _ _ hd] at hl1; cases hl1
        refine ⟨_, rfl, d, od, rfl, .inl ⟨_, upd_same, fun D hD => ?_⟩⟩
        refine lc_it (walk_keys (d := d) (o := od) (kvs := ps.map entK)) (fun i H' => Same (upd H1 d (.frz od (.dK (ps.map entK)))) H' ∧ H' D = some (.lst ((ps.take i).map fun q => V.int (q.1 - (wd : Int))))) ⟨same_upd hD, upd_same⟩ (fun i H' _ p => p.1 _ _ upd_same) ?_ ?_
        · rintro i v H2 H3 hi ⟨s2, hd2⟩ ⟨rfl, kk, vv, ek, rfl⟩
          rw [List.getElem?_map] at ek
          cases eq : ps[i]? with
          | none => rw [eq] at ek; cases ek
          | some q =>
            rw [eq] at ek
            have e1 : entK q = (kk, vv) := Option.some.inj ek
            have e2 : kk = Sum.inl q.1 := (Prod.mk.inj e1).1.symm
            subst e2
            refine ⟨rfl, _, rfl, _, rfl, _, _, rfl, rfl, _, hd2, (by rw [List.length_map, List.length_take, szl]; omega), ?_, ?_⟩
            · intro b o e
              rw [upd_ne (ne_of_none e hD)]
              exact s2 b o e
            · rw [upd_same, List.take_add_one, eq]
              show _ = some (HO.lst ((ps.take i ++ [q]).map fun q => V.int (q.1 - (wd : Int))))
              rw [List.map_append]
              rfl
        · rintro H2 ⟨s2, hd2⟩
          rw [List.length_map, List.take_length] at hd2
          have nDd : D ≠ d := fun z => by rw [z, upd_same] at hD; cases hD
          have s3 : Same H1 (upd H2 d (.dK (ps.map entK))) := fun b o e => by
            by_cases c : b = d
            · subst c
              rw [upd_same, ← e]
              exact (s1 _ _ hd).symm
            · rw [upd_ne c]
              exact s2 b o (by rw [upd_ne c]; exact e)
          have hD3 : (upd H2 d (.dK (ps.map entK))) D = some (.lst (ps.map fun q => V.int (q.1 - (wd : Int)))) := by rw [upd_ne nDd]; exact hd2
          refine ⟨s2 _ _ upd_same, ?_⟩
          generalize upd H2 d (.dK (ps.map entK)) = H3 at *
          refine ⟨p1, D, _, _, rfl, rfl, s3 _ _ hl1, hD3, (by rw [List.length_map, List.length_map, List.length_map, szl]; omega), fun p2 hp2 => ?_⟩
          have ebs : ((ps.map entK).map fun kv => kV kv.1) ++ (ps.map fun q => V.int (q.1 - (wd : Int))) = (ps.map (fun q => q.1) ++ ps.map fun q => q.1 - (wd : Int)).map V.int := by
            rw [List.map_append, List.map_map, List.map_map, List.map_map]
            rfl
          rw [ebs]
          refine ⟨p2, ps.map (fun q => q.1) ++ ps.map fun q => q.1 - (wd : Int), rfl, SqL.of upd_same, fun ts p3 tsp srt hp3 => ?_⟩
          have s5 := s1.trans (s3.trans ((same_upd hp2).trans (same_upd (o := .lst (ts.map V.int)) hp3)))
          have h5 : (upd (upd H3 p2 (.lst ((ps.map (fun q => q.1) ++ ps.map fun q => q.1 - (wd : Int)).map V.int))) p3 (.lst (ts.map V.int))) p3 = some (.lst (ts.map V.int)) := upd_same
          generalize upd (upd H3 p2 (.lst ((ps.map (fun q => q.1) ++ ps.map fun q => q.1 - (wd : Int)).map V.int))) p3 (.lst (ts.map V.int)) = H5 at *
          have inS : ∀ q, q ∈ ps → ∃ x, x ∈ sr ∧ cst x = q := fun q hq => List.mem_map.mp (hpm.mem_iff.mp hq)
          have inP : ∀ x, x ∈ sr → cst x ∈ ps := fun x hx => hpm.mem_iff.mpr (List.mem_map.mpr ⟨x, hx, rfl⟩)
          have inT : ∀ t : Int, t ∈ ts → ∃ x ∈ sr, t = (x.1 : Int) ∨ t = (x.1 : Int) - (wd : Int) := fun t ht => by
            rcases List.mem_append.mp (tsp.mem_iff.mp ht) with z | z
            · obtain ⟨q, hq, rfl⟩ := List.mem_map.mp z
              obtain ⟨x, hx, rfl⟩ := inS q hq
              exact ⟨x, hx, .inl rfl⟩
            · obtain ⟨q, hq, rfl⟩ := List.mem_map.mp z
              obtain ⟨x, hx, rfl⟩ := inS q hq
              exact ⟨x, hx, .inr rfl⟩
          have beg : ∀ t : Nat, t ∈ Sq37.begins sr wd ↔ Seen ts ts.length t := fun t => by
            rw [begins_mem]
            constructor
            · rintro ⟨x, hx, hc⟩
              have hm : (t : Int) ∈ ts := by
                refine tsp.mem_iff.mpr (List.mem_append.mpr ?_)
                rcases hc with hc | ⟨hc, hc2⟩
                · exact .inl (List.mem_map.mpr ⟨_, inP x hx, by rw [hc]⟩)
                · refine .inr (List.mem_map.mpr ⟨_, inP x hx, ?_⟩)
                  show (x.1 : Int) - (wd : Int) = (t : Int)
                  omega
              obtain ⟨j, hj⟩ := List.mem_iff_getElem?.mp hm
              exact ⟨j, (List.getElem?_eq_some_iff.mp hj).1, hj⟩
            · rintro ⟨j, _, hj⟩
              obtain ⟨x, hx, hc⟩ := inT _ (List.mem_of_getElem? hj)
              refine ⟨x, hx, ?_⟩
              rcases hc with hc | hc
              · exact .inl (by omega)
              · exact .inr ⟨by omega, by omega⟩
          refine ⟨p3, rfl, ⟨_, SqL.of h5⟩, for_list (K := K) (a := p3) (xs := ts.map V.int) (fun i σ H' => ∃ (bs : Best) (v1 v2 : Option V), σ = [some (.ref ha), some (.int sn), some (.int wd), some (.ref d), some (vB bs), some (vG bs), v1, v2, none] ∧ Same H5 H' ∧ BInv sr wd ts H' i bs)
            ⟨none, none, none, rfl, Same.refl _, fun t f ⟨j, hj, _⟩ => absurd hj (Nat.not_lt_zero _)⟩ (fun i σ H' _ ⟨_, _, _, _, s6, _⟩ => s6.seq (SqL.of h5)) ?_ ?_⟩
          · rintro i v σ H6 hi ⟨bs, v1, v2, rfl, s6, hb⟩
            rw [List.getElem?_map] at hi
            cases et : ts[i]? with
            | none => rw [et] at hi; cases hi
            | some t =>
              rw [et] at hi
              have ev : V.int t = v := Option.some.inj hi
              subst ev
              have DS6 : DictS H6 d sr := ⟨ps, s6 _ _ (s5 _ _ hd), hpm⟩
              obtain ⟨x, hx, hxt⟩ := inT t (List.mem_of_getElem? et)
              by_cases tn : t < 0
              · refine ⟨_, rfl, _, rfl, _, rfl, _, rfl, _, _, rfl, rfl, Or.inr ⟨d, sr, t, x.1, ?_, DS6, G, tn, fun H7 s7 => ?_⟩⟩
                · have e3 : t + (wd : Int) = (x.1 : Int) := by omega
                  show [V.ref d, V.int t, V.int (t + (wd : Int))] = _
                  rw [e3]
                · refine ⟨_, rfl, rfl, _, rfl, ?_⟩
                  refine if_false_of rfl ?_
                  refine if_false_of rfl ?_
                  refine ⟨bs, some (.int t), some .non, rfl, s6.trans s7, (hb.same s7).skip fun t' f e _ => ?_⟩
                  rw [et] at e
                  have := Option.some.inj e
                  omega
              · obtain ⟨tt, rfl⟩ : ∃ tt : Nat, t = (tt : Int) := ⟨t.toNat, by omega⟩
                refine ⟨_, rfl, _, rfl, _, rfl, _, rfl, _, _, rfl, rfl, Or.inl ⟨d, sr, tt, tt + wd, ?_, DS6, G, by omega, fun e7 H7 s7 => ?_, fun n m e7 H7 p7 s7 hp7 => ?_⟩⟩
                · show [V.ref d, V.int (tt : Int), V.int ((tt : Int) + (wd : Int))] = _
                  rw [Int.natCast_add]
                · refine ⟨_, rfl, rfl, _, rfl, ?_⟩
                  refine if_false_of rfl ?_
                  refine if_false_of rfl ?_
                  refine ⟨bs, some (.int (tt : Int)), some .non, rfl, s6.trans s7, (hb.same s7).skip fun t' f e e8 => ?_⟩
                  rw [et] at e
                  have e9 : tt = t' := by have := Option.some.inj e; omega
                  subst e9
                  rw [total_tot, e7] at e8
                  cases e8
                · refine ⟨_, rfl, rfl, _, rfl, ?_⟩
                  refine if_true_of rfl ?_
                  have hb7 := hb.same s7
                  obtain ⟨q1, q2⟩ := tot_le e7 G.time G.val G.len
                  cases bs with
                  | none =>
                    refine ⟨_, rfl, rfl, _, rfl, ?_⟩
                    refine if_true_of rfl ?_
                    refine if_true_of rfl ?_
                    refine ⟨_, rfl, _, rfl, ?_⟩
                    exact ⟨some (tt, n, m, p7), _, _, rfl, s6.trans s7, hb7.first et e7 hp7⟩
                  | some y =>
                    refine ⟨_, rfl, rfl, _, rfl, ?_⟩
                    refine if_false_of rfl ?_
                    obtain ⟨r1, r2⟩ := tot_le hb7.2.1 G.time G.val G.len
                    refine ⟨_, rfl, _, rfl, p7, y.2.2.2, n, m, y.2.1, y.2.2.1, rfl, hp7, hb7.1, q1, r1, _, rfl, ?_⟩
                    by_cases cx : y.2.1 * m < n * y.2.2.1
                    · refine if_true_of (decide_eq_true cx) ?_
                      refine ⟨_, rfl, _, rfl, ?_⟩
                      exact ⟨some (tt, n, m, p7), _, _, rfl, s6.trans s7, hb7.more et e7 hp7 cx⟩
                    · refine if_false_of (decide_eq_false cx) ?_
                      exact ⟨some y, _, _, rfl, s6.trans s7, hb7.stay srt et e7 cx⟩
          · rintro σ H6 ⟨bs, v1, v2, rfl, s6, hb⟩
            rw [List.length_map] at hb
            have s7 := s5.trans s6
            cases bs with
            | none =>
              refine ⟨_, rfl, rfl, _, rfl, ?_⟩
              refine if_true_of rfl ?_
              have em : Sq37.most sr wd = none := most_no fun t ht => by
                cases e : Sq37.total sr t (t + wd) with
                | none => rfl
                | some f => exact absurd e (fun z => hb t f ((beg t).mp ht) z)
              refine ⟨_, rfl, (by show 1 ≤ sizeLine; decide), fun p hp => ?_⟩
              refine k.says (o := Sq37.says (-3)) (est.trans ?_) hh (s7.trans (same_upd hp)) (s7.free hp) upd_same rfl
              rw [em]
            | some y =>
              refine ⟨_, rfl, rfl, _, rfl, ?_⟩
              refine if_false_of rfl ?_
              obtain ⟨h1, h2, h3, h4⟩ := hb
              obtain ⟨r1, r2⟩ := tot_le h2 G.time G.val G.len
              have em : Sq37.most sr wd = some (y.1, Sq37.frac y.2.1 y.2.2.1) := most_is ((beg _).mpr h3) (total_of h2) fun t' f' ht' e' => h4 t' f' ((beg t').mp ht') e'
              refine ⟨_, rfl, (by show 1 ≤ sizeLine; decide), fun q hq => ?_⟩
              have h1q := same_upd (o := .lst [.int (y.1 : Nat)]) hq _ _ h1
              refine ⟨_, rfl, y.2.2.2, _, _, _, rfl, rfl, SqT.of h1q, at0, _, rfl, y.2.2.2, _, _, _, rfl, rfl, SqT.of h1q, at1, y.2.1, y.2.2.1, rfl, tot_pos h2, Nat.lt_of_le_of_lt r1 (Nat.lt_of_lt_of_le (show 1000000000000 < 2 ^ 40 by decide) (Nat.pow_le_pow_right (by decide) (by decide))), fun H8 p8 s8 hn8 hp8 => ?_⟩
              refine ⟨q, p8, _, _, rfl, rfl, s8 _ _ upd_same, hp8, (by show 3 ≤ sizeLine; decide), fun p9 hp9 => ?_⟩
              have s9 := s7.trans ((same_upd hq).trans s8)
              refine k.says (o := ⟨y.1, Sq37.ints [(Sq37.frac y.2.1 y.2.2.1).n, (Sq37.frac y.2.1 y.2.2.1).d]⟩) (est.trans ?_) hh (s9.trans (same_upd hp9)) (s9.free hp9) upd_same rfl
              rw [em]
end
end Ac

set_option Elab.async false
set_option linter.all false
set_option maxRecDepth 100000
set_option maxHeartbeats 2000000
namespace Ac
open PySem PySem.Spec PyProof.Rows L2
abbrev sInit : Stmt := inClass (top 6) 0
abbrev sAC : Stmt := top 29
abbrev sEnd : Stmt := top 30
abbrev sAns : Stmt := top 31
def spInit (C : Addr) : Sp := fun vs H Q _ => ∃ (p dx : Addr), vs = [.ref p] ∧ H p = some (.ins C dx []) ∧ ∀ H' : Hp, IsHouse C H' p Sq37.fresh → (∀ b o, H b = some o → b ≠ p → H' b = some o) → Q .non H'
def spAC (K : PySem.W.Frag) (C : Addr) : Sp := fun vs H Q _ => ∃ (a l : Addr) (h : Sq37.House) (c : Sq37.Call), vs = [.ref a, .ref l] ∧ IsHouse C H a h ∧ SqL K H l ((flat c).map V.int) ∧ small c ∧ Ans C H a h c Q
theorem Ans.same {C : Addr} {H H1 : Hp} {a : Addr} {h : Sq37.House} {c : Sq37.Call} {Q : VK} (k : Ans C H a h c Q) (x : IsHouse C H a h) (s : Same H H1) : Ans C H1 a h c Q := fun H' p h1 h2 h3 h4 h5 =>
  k H' p h1 ((Keeps.of s).trans h2) (fun b o hb f => h3 b o (s _ _ hb) (let ⟨_, _, _, X⟩ := x; off_ob X.ob (s _ _ X.ob) f)) (s.free h4) h5
theorem cut_four (a b c d : V) (r : List V) : cutV (a :: b :: c :: d :: r) (some 4) none = r := by
  unfold cutV
  have e1 : HT.sIx (a :: b :: c :: d :: r).length 0 (some 4) = min 4 (a :: b :: c :: d :: r).length := HT.sIx_nat _ _ 4
  rw [e1, HT.sIx_none]
  have e2 : min 4 (a :: b :: c :: d :: r).length = 4 := by simp only [List.length_cons]; omega
  rw [e2]
  show r.take (r.length + 1 + 1 + 1 + 1 - 4) = r
  rw [show r.length + 1 + 1 + 1 + 1 - 4 = r.length by omega, List.take_length]
section
variable {P : Program} {w : World} {K : PySem.W.Frag} {mg : Str → Option Value} {base : Heap} {C : Addr}
theorem scInit : FnScope ["self"] ["self"] (defScope sInit) := ⟨rfl, rfl, rfl, by decide +kernel, rfl, by decide +kernel, by decide +kernel⟩
theorem ok_init {f : Addr} {fd : FuncData} (F : Fun K "__init__" "House.__init__" sInit f fd) (T : TxtH K C) : FnOk P w K mg base CX0 1 f fd ["self"] (spInit C) := by
  refine F.ok scInit (fun vs H Q E h => ?_) (fun cdv A outer s H vs Q E hr h => ?_)
  · obtain ⟨p, dx, rfl, _⟩ := h
    rfl
  · obtain ⟨p, dx, rfl, hp, k⟩ := h
    refine ⟨_, pss_one (ps_fld (pv 0) (pe_lst (pa_cons pe_dnewK pa_nil)) rfl), ?_⟩
    intro d hd
    refine ⟨(by show 1 ≤ sizeLine; decide), fun L hL => ?_⟩
    have hL' : H L = none := by
      rw [upd_ne (fun z => by rw [z, upd_same] at hL; cases hL)] at hL
      exact hL
    have nLd : d ≠ L := fun z => by rw [← z, upd_same] at hL; cases hL
    have npd : p ≠ d := ne_of_none hp hd
    have npL : p ≠ L := ne_of_none hp hL'
    refine ⟨_, rfl, p, C, dx, [], rfl, (by rw [upd_ne npL, upd_ne npd]; exact hp), T.cl, T.nS, (by show 0 < 1000; decide), ?_⟩
    refine k _ ⟨dx, L, [d], upd_same, ?_, by simp, rfl, (by show 1 ≤ 8; decide), fun i s hs => ?_⟩ fun b o e hb => ?_
    · rw [upd_ne npL.symm, upd_same]
      rfl
    · have hs' : [([] : Sq37.Series)][i]? = some s := hs
      cases i with
      | zero =>
        have : s = [] := (Option.some.inj hs').symm
        subst this
        refine ⟨d, rfl, ⟨[], ?_, List.Perm.refl _⟩, ⟨List.Pairwise.nil, by simp, by simp, by simp⟩⟩
        rw [upd_ne npd.symm, upd_ne nLd, upd_same]
        rfl
      | succ i => simp at hs'
    · rw [upd_ne hb, upd_ne (ne_of_none e hL'), upd_ne (ne_of_none e hd)]
      exact e
theorem scAC : FnScope ["house", "call"] ["house", "call"] (defScope sAC) := ⟨rfl, rfl, rfl, by decide +kernel, rfl, by decide +kernel, by decide +kernel⟩
/-- the call's items, by their places -/
theorem fl0 {l : List Int} {z : Int} (h : l[0]? = some z) : atI (l.map V.int) 0 = some (V.int z) := atI_nat (j := 0) (by rw [List.getElem?_map, h]; rfl)
theorem fl1 {l : List Int} {z : Int} (h : l[1]? = some z) : atI (l.map V.int) 1 = some (V.int z) := atI_nat (j := 1) (by rw [List.getElem?_map, h]; rfl)
theorem fl2 {l : List Int} {z : Int} (h : l[2]? = some z) : atI (l.map V.int) 2 = some (V.int z) := atI_nat (j := 2) (by rw [List.getElem?_map, h]; rfl)
theorem fl3 {l : List Int} {z : Int} (h : l[3]? = some z) : atI (l.map V.int) 3 = some (V.int z) := atI_nat (j := 3) (by rw [List.getElem?_map, h]; rfl)
theorem ok_ac {f : Addr} {fd : FuncData} (F : Fun K "answer_call" "answer_call" sAC f fd)
    (D1 : Df P w K mg base "begin" 1 ["house", "series"] (spBeginC C))
    (D2 : Df P w K mg base "sample" 2 ["house", "series", "time", "shows"] (spSampleC C))
    (D3 : Df P w K mg base "out" 2 ["house", "series", "time"] (spOutC C))
    (D4 : Df P w K mg base "total" 5 ["house", "series", "a", "b"] (spTotalC C))
    (D5 : Df P w K mg base "rate" 5 ["house", "series", "a", "b"] (spRateC C))
    (D6 : Df P w K mg base "anew" 2 ["house", "series", "a", "b"] (spAnewC C))
    (D7 : Df P w K mg base "gaps" 2 ["house", "series", "g"] (spGapsC C))
    (D8 : Df P w K mg base "most" 5 ["house", "series", "w"] (spMostC C))
    (D9 : Df P w K mg base "when" 4 ["house", "series", "a", "x"] (spWhenC C))
    (D10 : Df P w K mg base "sum_of" 5 ["house", "a", "b", "some"] (spSumC K C))
    (D11 : Df P w K mg base "top" 6 ["house", "n", "a", "b"] (spTopC C))
    (D12 : Df P w K mg base "list_of" 2 ["house", "series"] (spListC C))
    : FnOk P w K mg base CX0 7 f fd ["house", "call"] (spAC K C) := by
  refine F.ok scAC (fun vs H Q E h => ?_) (fun cdv A outer s H vs Q E hr h => ?_)
  · obtain ⟨a, l, h, c, rfl, _⟩ := h
    rfl
  · obtain ⟨a, l, h, c, rfl, hh, hl, h6, k⟩ := h
    have hr1 : Room 1 _ := hr.mono (by decide)
    have hr2 : Room 2 _ := hr.mono (by decide)
    have hr4 : Room 4 _ := hr.mono (by decide)
    have hr5 : Room 5 _ := hr.mono (by decide)
    refine ⟨_, (pss_cons (ps_if (pt_cmpR op_eq (pe_ix ix_list (pv 1) pe_int (fun _ _ => rfl)) pe_int (nomark _)) (pss_one (ps_ret (pe_df D1 hr1 rfl (pa_cons (pv 0) (pa_cons (pe_ix ix_list (pv 1) pe_int (fun _ _ => rfl)) pa_nil))))) pss_nil)
      (pss_cons (ps_if (pt_cmpR op_eq (pe_ix ix_list (pv 1) pe_int (fun _ _ => rfl)) pe_int (nomark _)) (pss_one (ps_ret (pe_df D2 hr2 rfl (pa_cons (pv 0) (pa_cons (pe_ix ix_list (pv 1) pe_int (fun _ _ => rfl)) (pa_cons (pe_ix ix_list (pv 1) pe_int (fun _ _ => rfl)) (pa_cons (pe_ix ix_list (pv 1) pe_int (fun _ _ => rfl)) pa_nil))))))) pss_nil)
      (pss_cons (ps_if (pt_cmpR op_eq (pe_ix ix_list (pv 1) pe_int (fun _ _ => rfl)) pe_int (nomark _)) (pss_one (ps_ret (pe_df D3 hr2 rfl (pa_cons (pv 0) (pa_cons (pe_ix ix_list (pv 1) pe_int (fun _ _ => rfl)) (pa_cons (pe_ix ix_list (pv 1) pe_int (fun _ _ => rfl)) pa_nil)))))) pss_nil)
      (pss_cons (ps_if (pt_cmpR op_eq (pe_ix ix_list (pv 1) pe_int (fun _ _ => rfl)) pe_int (nomark _)) (pss_one (ps_ret (pe_df D4 hr5 rfl (pa_cons (pv 0) (pa_cons (pe_ix ix_list (pv 1) pe_int (fun _ _ => rfl)) (pa_cons (pe_ix ix_list (pv 1) pe_int (fun _ _ => rfl)) (pa_cons (pe_ix ix_list (pv 1) pe_int (fun _ _ => rfl)) pa_nil))))))) pss_nil)
      (pss_cons (ps_if (pt_cmpR op_eq (pe_ix ix_list (pv 1) pe_int (fun _ _ => rfl)) pe_int (nomark _)) (pss_one (ps_ret (pe_df D5 hr5 rfl (pa_cons (pv 0) (pa_cons (pe_ix ix_list (pv 1) pe_int (fun _ _ => rfl)) (pa_cons (pe_ix ix_list (pv 1) pe_int (fun _ _ => rfl)) (pa_cons (pe_ix ix_list (pv 1) pe_int (fun _ _ => rfl)) pa_nil))))))) pss_nil)
      (pss_cons (ps_if (pt_cmpR op_eq (pe_ix ix_list (pv 1) pe_int (fun _ _ => rfl)) pe_int (nomark _)) (pss_one (ps_ret (pe_df D6 hr2 rfl (pa_cons (pv 0) (pa_cons (pe_ix ix_list (pv 1) pe_int (fun _ _ => rfl)) (pa_cons (pe_ix ix_list (pv 1) pe_int (fun _ _ => rfl)) (pa_cons (pe_ix ix_list (pv 1) pe_int (fun _ _ => rfl)) pa_nil))))))) pss_nil)
      (pss_cons (ps_if (pt_cmpR op_eq (pe_ix ix_list (pv 1) pe_int (fun _ _ => rfl)) pe_int (nomark _)) (pss_one (ps_ret (pe_df D7 hr2 rfl (pa_cons (pv 0) (pa_cons (pe_ix ix_list (pv 1) pe_int (fun _ _ => rfl)) (pa_cons (pe_ix ix_list (pv 1) pe_int (fun _ _ => rfl)) pa_nil)))))) pss_nil)
      (pss_cons (ps_if (pt_cmpR op_eq (pe_ix ix_list (pv 1) pe_int (fun _ _ => rfl)) pe_int (nomark _)) (pss_one (ps_ret (pe_df D8 hr5 rfl (pa_cons (pv 0) (pa_cons (pe_ix ix_list (pv 1) pe_int (fun _ _ => rfl)) (pa_cons (pe_ix ix_list (pv 1) pe_int (fun _ _ => rfl)) pa_nil)))))) pss_nil)
      (pss_cons (ps_if (pt_cmpR op_eq (pe_ix ix_list (pv 1) pe_int (fun _ _ => rfl)) pe_int (nomark _)) (pss_one (ps_ret (pe_df D9 hr4 rfl (pa_cons (pv 0) (pa_cons (pe_ix ix_list (pv 1) pe_int (fun _ _ => rfl)) (pa_cons (pe_ix ix_list (pv 1) pe_int (fun _ _ => rfl)) (pa_cons (pe_ix ix_list (pv 1) pe_int (fun _ _ => rfl)) pa_nil))))))) pss_nil)
      (pss_cons (ps_if (pt_cmpR op_eq (pe_ix ix_list (pv 1) pe_int (fun _ _ => rfl)) pe_int (nomark _)) (pss_one (ps_ret (pe_df D10 hr5 rfl (pa_cons (pv 0) (pa_cons (pe_ix ix_list (pv 1) pe_int (fun _ _ => rfl)) (pa_cons (pe_ix ix_list (pv 1) pe_int (fun _ _ => rfl)) (pa_cons (pe_slice sl_list (pv 1) (po_some pe_int) po_none) pa_nil))))))) pss_nil)
      (pss_cons (ps_if (pt_cmpR op_eq (pe_ix ix_list (pv 1) pe_int (fun _ _ => rfl)) pe_int (nomark _)) (pss_one (ps_ret (pe_df D11 hr rfl (pa_cons (pv 0) (pa_cons (pe_ix ix_list (pv 1) pe_int (fun _ _ => rfl)) (pa_cons (pe_ix ix_list (pv 1) pe_int (fun _ _ => rfl)) (pa_cons (pe_ix ix_list (pv 1) pe_int (fun _ _ => rfl)) pa_nil))))))) pss_nil)
      (pss_one (ps_ret (pe_df D12 hr2 rfl (pa_cons (pv 0) (pa_cons (pe_ix ix_list (pv 1) pe_int (fun _ _ => rfl)) pa_nil)))))))))))))))), ?_⟩
    cases c with
    | begin_ x =>
      refine ⟨_, rfl, l, _, _, _, rfl, rfl, hl, fl0 rfl, rfl, _, rfl, ?_⟩
      refine if_true_of (by decide) ?_
      exact ⟨_, rfl, _, rfl, l, _, _, _, rfl, rfl, hl, fl1 rfl, a, h, x, rfl, hh, k⟩
    | sample x y z =>
      iterate 1
        refine ⟨_, rfl, l, _, _, _, rfl, rfl, hl, fl0 rfl, rfl, _, rfl, ?_⟩
        refine if_false_of (by decide) ?_
      refine ⟨_, rfl, l, _, _, _, rfl, rfl, hl, fl0 rfl, rfl, _, rfl, ?_⟩
      refine if_true_of (by decide) ?_
      exact ⟨_, rfl, _, rfl, l, _, _, _, rfl, rfl, hl, fl1 rfl, _, rfl, l, _, _, _, rfl, rfl, hl, fl2 rfl, _, rfl, l, _, _, _, rfl, rfl, hl, fl3 rfl, a, h, x, y, z, rfl, hh, k⟩
    | out x y =>
      iterate 2
        refine ⟨_, rfl, l, _, _, _, rfl, rfl, hl, fl0 rfl, rfl, _, rfl, ?_⟩
        refine if_false_of (by decide) ?_
      refine ⟨_, rfl, l, _, _, _, rfl, rfl, hl, fl0 rfl, rfl, _, rfl, ?_⟩
      refine if_true_of (by decide) ?_
      exact ⟨_, rfl, _, rfl, l, _, _, _, rfl, rfl, hl, fl1 rfl, _, rfl, l, _, _, _, rfl, rfl, hl, fl2 rfl, a, h, x, y, rfl, hh, k⟩
    | total x y z =>
      iterate 3
        refine ⟨_, rfl, l, _, _, _, rfl, rfl, hl, fl0 rfl, rfl, _, rfl, ?_⟩
        refine if_false_of (by decide) ?_
      refine ⟨_, rfl, l, _, _, _, rfl, rfl, hl, fl0 rfl, rfl, _, rfl, ?_⟩
      refine if_true_of (by decide) ?_
      exact ⟨_, rfl, _, rfl, l, _, _, _, rfl, rfl, hl, fl1 rfl, _, rfl, l, _, _, _, rfl, rfl, hl, fl2 rfl, _, rfl, l, _, _, _, rfl, rfl, hl, fl3 rfl, a, h, x, y, z, rfl, hh, k⟩
    | rate x y z =>
      iterate 4
        refine ⟨_, rfl, l, _, _, _, rfl, rfl, hl, fl0 rfl, rfl, _, rfl, ?_⟩
        refine if_false_of (by decide) ?_
      refine ⟨_, rfl, l, _, _, _, rfl, rfl, hl, fl0 rfl, rfl, _, rfl, ?_⟩
      refine if_true_of (by decide) ?_
      exact ⟨_, rfl, _, rfl, l, _, _, _, rfl, rfl, hl, fl1 rfl, _, rfl, l, _, _, _, rfl, rfl, hl, fl2 rfl, _, rfl, l, _, _, _, rfl, rfl, hl, fl3 rfl, a, h, x, y, z, rfl, hh, k⟩
    | anew x y z =>
      iterate 5
        refine ⟨_, rfl, l, _, _, _, rfl, rfl, hl, fl0 rfl, rfl, _, rfl, ?_⟩
        refine if_false_of (by decide) ?_
      refine ⟨_, rfl, l, _, _, _, rfl, rfl, hl, fl0 rfl, rfl, _, rfl, ?_⟩
      refine if_true_of (by decide) ?_
      exact ⟨_, rfl, _, rfl, l, _, _, _, rfl, rfl, hl, fl1 rfl, _, rfl, l, _, _, _, rfl, rfl, hl, fl2 rfl, _, rfl, l, _, _, _, rfl, rfl, hl, fl3 rfl, a, h, x, y, z, rfl, hh, k⟩
    | gaps x y =>
      iterate 6
        refine ⟨_, rfl, l, _, _, _, rfl, rfl, hl, fl0 rfl, rfl, _, rfl, ?_⟩
        refine if_false_of (by decide) ?_
      refine ⟨_, rfl, l, _, _, _, rfl, rfl, hl, fl0 rfl, rfl, _, rfl, ?_⟩
      refine if_true_of (by decide) ?_
      exact ⟨_, rfl, _, rfl, l, _, _, _, rfl, rfl, hl, fl1 rfl, _, rfl, l, _, _, _, rfl, rfl, hl, fl2 rfl, a, h, x, y, rfl, hh, k⟩
    | most x y =>
      iterate 7
        refine ⟨_, rfl, l, _, _, _, rfl, rfl, hl, fl0 rfl, rfl, _, rfl, ?_⟩
        refine if_false_of (by decide) ?_
      refine ⟨_, rfl, l, _, _, _, rfl, rfl, hl, fl0 rfl, rfl, _, rfl, ?_⟩
      refine if_true_of (by decide) ?_
      exact ⟨_, rfl, _, rfl, l, _, _, _, rfl, rfl, hl, fl1 rfl, _, rfl, l, _, _, _, rfl, rfl, hl, fl2 rfl, a, h, x, y, rfl, hh, k⟩
    | «when» x y z =>
      iterate 8
        refine ⟨_, rfl, l, _, _, _, rfl, rfl, hl, fl0 rfl, rfl, _, rfl, ?_⟩
        refine if_false_of (by decide) ?_
      refine ⟨_, rfl, l, _, _, _, rfl, rfl, hl, fl0 rfl, rfl, _, rfl, ?_⟩
      refine if_true_of (by decide) ?_
      exact ⟨_, rfl, _, rfl, l, _, _, _, rfl, rfl, hl, fl1 rfl, _, rfl, l, _, _, _, rfl, rfl, hl, fl2 rfl, _, rfl, l, _, _, _, rfl, rfl, hl, fl3 rfl, a, h, x, y, z, rfl, hh, k⟩
    | sum x y ns =>
      iterate 9
        refine ⟨_, rfl, l, _, _, _, rfl, rfl, hl, fl0 rfl, rfl, _, rfl, ?_⟩
        refine if_false_of (by decide) ?_
      refine ⟨_, rfl, l, _, _, _, rfl, rfl, hl, fl0 rfl, rfl, _, rfl, ?_⟩
      refine if_true_of (by decide) ?_
      refine ⟨_, rfl, _, rfl, l, _, _, _, rfl, rfl, hl, fl1 rfl, _, rfl, l, _, _, _, rfl, rfl, hl, fl2 rfl, _, rfl, 4, rfl, l, _, rfl, hl, fun q hq => ?_⟩
      refine ⟨a, q, h, x, y, ns, rfl, hh.same (same_upd hq), ?_, h6.2.2.1, k.same hh (same_upd hq)⟩
      refine Eq.trans upd_same ?_
      exact congrArg (fun z => some (HO.lst z)) (cut_four ..)
    | top x y z =>
      iterate 10
        refine ⟨_, rfl, l, _, _, _, rfl, rfl, hl, fl0 rfl, rfl, _, rfl, ?_⟩
        refine if_false_of (by decide) ?_
      refine ⟨_, rfl, l, _, _, _, rfl, rfl, hl, fl0 rfl, rfl, _, rfl, ?_⟩
      refine if_true_of (by decide) ?_
      exact ⟨_, rfl, _, rfl, l, _, _, _, rfl, rfl, hl, fl1 rfl, _, rfl, l, _, _, _, rfl, rfl, hl, fl2 rfl, _, rfl, l, _, _, _, rfl, rfl, hl, fl3 rfl, a, h, x, y, z, rfl, hh, k⟩
    | list x =>
      iterate 11
        refine ⟨_, rfl, l, _, _, _, rfl, rfl, hl, fl0 rfl, rfl, _, rfl, ?_⟩
        refine if_false_of (by decide) ?_
      exact ⟨_, rfl, _, rfl, l, _, _, _, rfl, rfl, hl, fl1 rfl, a, h, x, rfl, hh, k⟩
end
end Ac

set_option Elab.async false
set_option linter.all false
set_option maxRecDepth 100000
set_option maxHeartbeats 2000000
namespace Ac
open PySem PySem.Spec PyProof.Rows L2
/-- the house behind some calls -/
def ran : Sq37.House → List Sq37.Call → Sq37.House
  | h, [] => h
  | h, c :: cs => ran (h.step c).1 cs
theorem play_append : ∀ (a b : List Sq37.Call) (h : Sq37.House), play h (a ++ b) = play h a ++ play (ran h a) b
  | [], b, h => rfl
  | c :: a, b, h => by
    show ansOf (h.step c).2 :: play (h.step c).1 (a ++ b) = ansOf (h.step c).2 :: play (h.step c).1 a ++ play (ran (h.step c).1 a) b
    rw [play_append a b]
    rfl
theorem ran_append : ∀ (a b : List Sq37.Call) (h : Sq37.House), ran h (a ++ b) = ran (ran h a) b
  | [], b, h => rfl
  | c :: a, b, h => ran_append a b _
theorem told_append (a b : List (List Int)) : PyFlat.told (a ++ b) = PyFlat.told a ++ PyFlat.told b := by
  unfold PyFlat.told
  rw [List.flatMap_append]
theorem told_len : ∀ l : List (List Int), (PyFlat.told l).length = l.flatten.length + l.length
  | [] => rfl
  | a :: l => by
    have ih := told_len l
    unfold PyFlat.told at ih ⊢
    rw [List.flatMap_cons, List.length_append, ih, List.flatten_cons, List.length_append, List.length_cons, List.length_cons]
    omega
theorem play_len : ∀ (cs : List Sq37.Call) (h : Sq37.House), (play h cs).length = cs.length
  | [], _ => rfl
  | c :: cs, h => by
    show (play _ cs).length + 1 = cs.length + 1
    rw [play_len cs]
theorem cut_mid {a b c : List V} : cutV (a ++ b ++ c) (some (a.length : Int)) (some ((a.length + b.length : Nat) : Int)) = b := by
  unfold cutV
  rw [HT.sIx_nat, HT.sIx_nat]
  have hl : (a ++ b ++ c).length = a.length + b.length + c.length := by rw [List.length_append, List.length_append]
  rw [Nat.min_eq_left (by omega), Nat.min_eq_left (by omega), Nat.add_sub_cancel_left, List.append_assoc, List.drop_append_of_le_length (Nat.le_refl _), List.drop_length, List.nil_append, List.take_append_of_le_length (Nat.le_refl _), List.take_length]
def nb12 : List (Int × Int) := [(1, 1), (2, 3), (3, 2), (4, 3), (5, 3), (6, 3), (7, 2), (8, 2), (9, 3), (10, 3), (11, 3), (12, 1)]
/-- end_of_call(calls, at) -/
def spEnd (K : PySem.W.Frag) : Sp := fun vs H Q _ => ∃ (a : Addr) (pre post : List Int) (c : Sq37.Call), vs = [.ref a, .int (pre.length : Nat)] ∧ SqL K H a ((pre ++ flat c ++ post).map V.int) ∧ Q (.int ((pre.length + (flat c).length : Nat) : Int)) H
def spAns12 (K : PySem.W.Frag) : Sp := fun vs H Q _ => ∃ (a : Addr) (cs : List Sq37.Call), vs = [.ref a] ∧ SqL K H a ((cs.flatMap flat).map V.int) ∧ (∀ c ∈ cs, small c) ∧ cs.length ≤ 60 ∧ (play Sq37.fresh cs).flatten.length < 1000000 ∧
  ∀ (H' : Hp) (p : Addr), H' p = some (.lst ((PyFlat.told (play Sq37.fresh cs)).map V.int)) → Q (.ref p) H'
theorem flat_head (c : Sq37.Call) : ∃ z fr, flat c = z :: fr ∧ ((z ≠ 10 ∧ nb12.lookup z = some (fr.length : Int)) ∨ (z = 10 ∧ ∃ m : Nat, fr[2]? = some (m : Int) ∧ fr.length = 3 + m)) := by
  cases c with
  | sum x y ns => exact ⟨_, _, rfl, .inr ⟨rfl, ns.length, rfl, by show (ns.map _).length + 1 + 1 + 1 = _; rw [List.length_map]; omega⟩⟩
  | begin_ n => exact ⟨_, _, rfl, .inl ⟨by decide, rfl⟩⟩
  | sample x y z => exact ⟨_, _, rfl, .inl ⟨by decide, rfl⟩⟩
  | out x y => exact ⟨_, _, rfl, .inl ⟨by decide, rfl⟩⟩
  | total x y z => exact ⟨_, _, rfl, .inl ⟨by decide, rfl⟩⟩
  | rate x y z => exact ⟨_, _, rfl, .inl ⟨by decide, rfl⟩⟩
  | anew x y z => exact ⟨_, _, rfl, .inl ⟨by decide, rfl⟩⟩
  | gaps x y => exact ⟨_, _, rfl, .inl ⟨by decide, rfl⟩⟩
  | most x y => exact ⟨_, _, rfl, .inl ⟨by decide, rfl⟩⟩
  | «when» x y z => exact ⟨_, _, rfl, .inl ⟨by decide, rfl⟩⟩
  | top x y z => exact ⟨_, _, rfl, .inl ⟨by decide, rfl⟩⟩
  | list x => exact ⟨_, _, rfl, .inl ⟨by decide, rfl⟩⟩
section
variable {P : Program} {w : World} {K : PySem.W.Frag} {mg : Str → Option Value} {base : Heap} {C : Addr}
theorem scEnd : FnScope ["calls", "at", "end"] ["calls", "at"] (defScope sEnd) := ⟨rfl, rfl, rfl, by decide +kernel, rfl, by decide +kernel, by decide +kernel⟩
theorem ok_end {f nb : Addr} {fd : FuncData} (F : Fun K "end_of_call" "end_of_call" sEnd f fd) (mNB : mg "NUMBERS_BEHIND" = some (.ref nb)) (kNB : KDI K nb nb12) : FnOk P w K mg base CX0 1 f fd ["calls", "at"] (spEnd K) := by
  refine F.ok scEnd (fun vs H Q E h => ?_) (fun cdv A outer s H vs Q E hr h => ?_)
  · obtain ⟨a, pre, post, c, rfl, _⟩ := h
    rfl
  · obtain ⟨a, pre, post, c, rfl, hS, k⟩ := h
    refine ⟨_, pss_cons (ps_set (i := 2) scEnd.nd rfl (Or.inl rfl) (pe_op op_add (pe_op op_add (pv 1) pe_int) (pe_ix ix_kints (pe_glob (v := .ref nb) rfl mNB rfl) (pe_ix ix_list (pv 0) (pv 1) (fun _ _ => rfl)) (fun _ _ => rfl))))
      (pss_cons (ps_if (pt_cmpR op_eq (pe_ix ix_list (pv 0) (pv 1) (fun _ _ => rfl)) pe_int (nomark _)) (pss_one (ps_ret (pe_op op_add (pv 2) (pe_ix ix_list (pv 0) (pe_op op_add (pv 1) pe_int) (fun _ _ => rfl))))) pss_nil)
      (pss_one (ps_ret (pv 2)))), ?_⟩
    obtain ⟨z, fr, efc, hz⟩ := flat_head c
    have hfl : (flat c).length = fr.length + 1 := by rw [efc]; rfl
    have hat : atI ((pre ++ flat c ++ post).map V.int) (pre.length : Nat) = some (V.int z) := by
      refine atI_nat ?_
      rw [List.getElem?_map, efc, List.append_assoc, List.getElem?_append_right (Nat.le_refl _), Nat.sub_self]
      rfl
    rcases hz with ⟨z1, enb⟩ | ⟨rfl, m, hm, hfm⟩
    · refine ⟨_, rfl, _, _, rfl, rfl, _, rfl, _, rfl, a, _, _, _, rfl, rfl, hS, hat, nb, nb12, z, _, rfl, rfl, kNB, enb, _, _, rfl, rfl, ?_⟩
      refine ⟨_, rfl, _, rfl, a, _, _, _, rfl, rfl, hS, hat, rfl, _, rfl, ?_⟩
      refine if_false_of (decide_eq_false (fun q => z1 (V.int.inj q))) ?_
      refine ⟨_, rfl, ?_⟩
      have e : ((pre.length : Nat) : Int) + 1 + (fr.length : Int) = ((pre.length + (flat c).length : Nat) : Int) := by rw [hfl]; omega
      rw [← e] at k
      exact k
    · refine ⟨_, rfl, _, _, rfl, rfl, _, rfl, _, rfl, a, _, _, _, rfl, rfl, hS, hat, nb, nb12, 10, 3, rfl, rfl, kNB, rfl, _, _, rfl, rfl, ?_⟩
      refine ⟨_, rfl, _, rfl, a, _, _, _, rfl, rfl, hS, hat, rfl, _, rfl, ?_⟩
      refine if_true_of (decide_eq_true rfl) ?_
      have hat3 : atI ((pre ++ flat c ++ post).map V.int) ((pre.length : Nat) + 3 : Int) = some (V.int m) := by
        have e : (((pre.length : Nat) : Int) + 3) = ((pre.length + 3 : Nat) : Int) := by omega
        rw [e]
        refine atI_nat ?_
        rw [List.getElem?_map, efc, List.append_assoc, List.getElem?_append_right (by omega), Nat.add_sub_cancel_left]
        have e2 : ((10 : Int) :: fr ++ post)[3]? = some (m : Int) := by
          show (fr ++ post)[2]? = some (m : Int)
          rw [List.getElem?_append_left (by omega)]
          exact hm
        rw [e2]
        rfl
      refine ⟨_, rfl, _, rfl, _, rfl, _, _, rfl, rfl, a, _, _, _, rfl, rfl, hS, hat3, _, _, rfl, rfl, ?_⟩
      have e : ((pre.length : Nat) : Int) + 1 + 3 + (m : Int) = ((pre.length + (flat c).length : Nat) : Int) := by rw [hfl]; omega
      rw [← e] at k
      exact k
theorem scAns : FnScope ["calls", "house", "told", "at", "end", "answered"] ["calls"] (defScope sAns) := ⟨rfl, rfl, rfl, by decide +kernel, rfl, by decide +kernel, by decide +kernel⟩
theorem ok_ans {f fI : Addr} {fd fdI : FuncData} (F : Fun K "answers" "answers" sAns f fd) (M : Mk K C fI) (GI : FnOk P w K mg base CX0 1 fI fdI ["self"] (spInit C)) (bI : Binds K fdI ["self"] []) (mC : mg "House" = some (.ref C))
    (mLen : mg "len" = none) (DE : Df P w K mg base "end_of_call" 1 ["calls", "at"] (spEnd K)) (DA : Df P w K mg base "answer_call" 7 ["house", "call"] (spAC K C)) : FnOk P w K mg base CX0 8 f fd ["calls"] (spAns12 K) := by
  refine F.ok scAns (fun vs H Q E h => ?_) (fun cdv A outer s H vs Q E hr h => ?_)
  · obtain ⟨a, cs, rfl, _⟩ := h
    rfl
  · obtain ⟨a, cs, rfl, hS, h6, hlen, hout, k⟩ := h
    have hr2 : Room 2 _ := hr.mono (by decide)
    have hr1 : Room 1 _ := hr.mono (by decide)
    refine ⟨_, pss_cons (ps_set (i := 1) scAns.nd rfl (Or.inl rfl) (pe_make0 M GI hr2 rfl mC bI .nil pass0))
      (pss_cons (ps_set (i := 2) scAns.nd rfl (Or.inl rfl) (pe_lst pa_nil))
      (pss_cons (ps_set (i := 3) scAns.nd rfl (Or.inl rfl) pe_int)
      (pss_cons (ps_while PassesOwn.never (pt_cmpR op_lt (pv 3) (pe_callB call_len_seq (by rfl) mLen PySem.boot_len (pa_cons (pv 0) pa_nil)) (nomark _))
        (pss_cons (ps_set (i := 4) scAns.nd rfl (Or.inl rfl) (pe_df DE hr1 rfl (pa_cons (pv 0) (pa_cons (pv 3) pa_nil))))
        (pss_cons (ps_set (i := 5) scAns.nd rfl (Or.inl rfl) (pe_df DA hr rfl (pa_cons (pv 1) (pa_cons (pe_slice sl_list (pv 0) (po_some (pv 3)) (po_some (pv 4))) pa_nil))))
        (pss_cons (ps_expr (pe_bm PySem.F.plainAttrs_list PySem.F.slot_list_append PySem.F.type_list_append mt_append (pv 2) (pa_cons (pe_callB call_len_seq (by rfl) mLen PySem.boot_len (pa_cons (pv 5) pa_nil)) pa_nil)))
        (pss_cons (ps_expr (pe_bm PySem.F.plainAttrs_list PySem.F.slot_list_extend PySem.F.type_list_extend mt_extend (pv 2) (pa_cons (pv 5) pa_nil)))
        (pss_one (ps_set (i := 3) scAns.nd rfl (Or.inl rfl) (pv 4))))))))
      (pss_one (ps_ret (pv 2)))))), ?_⟩
    -- house = House()
    intro x dx nx ndx nex
    refine ⟨x, dx, rfl, upd_same, fun H1 D1 kp => ⟨rfl, (by show 0 ≤ sizeLine; decide), fun tl htl => ?_⟩⟩
    have s1 : Same H H1 := Same.made nx ndx kp
    have hcase : a ≠ tl ∨ ∀ H', SqL K H' a ((cs.flatMap flat).map V.int) := by
      rcases hS with (h | ⟨o, h⟩) | h
      · exact .inl (ne_of_none (s1 _ _ h) htl)
      · exact .inl (ne_of_none (s1 _ _ h) htl)
      · exact .inr fun _ => .inr h
    refine while_by (fun σ H' => ∃ (dn rs : List Sq37.Call) (v1 v2 : Option V), cs = dn ++ rs ∧ σ = [some (.ref a), some (.ref x), some (.ref tl), some (.int ((dn.flatMap flat).length : Nat)), v1, v2] ∧ SqL K H' a ((cs.flatMap flat).map V.int) ∧
        IsHouse C H' x (ran Sq37.fresh dn) ∧ Off H' x tl ∧ H' tl = some (.lst ((PyFlat.told (play Sq37.fresh dn)).map V.int)))
      (fun σ _ => match σ with | [_, _, _, some (.int r), _, _] => (cs.flatMap flat).length - r.toNat | _ => 0) ⟨[], cs, none, none, rfl, rfl, (s1.trans (same_upd htl)).seq hS, D1.same (same_upd htl), ?o, upd_same⟩ ?_ ?_
    case o =>
      obtain ⟨dx1, L1, ds1, X1⟩ := D1
      exact fun C' dx' L' e => by
        rw [upd_ne (ne_of_none X1.ob htl), X1.ob] at e
        have e3 := Option.some.inj e
        have e4 : L1 = L' := by injection e3 with _ _ q; injection q with q1; injection q1 with _ q2; injection q2
        rw [← e4]
        exact ne_of_none X1.ls htl
    · rintro σ H2 ⟨dn, rs, v1, v2, ecs, rfl, hS2, D2, of2, ht2⟩
      refine ⟨_, rfl, _, rfl, a, _, rfl, .inl hS2, _, _, rfl, rfl, _, rfl, ?_⟩
      cases rs with
      | nil =>
        rw [List.append_nil] at ecs
        subst ecs
        refine if_false_of (decide_eq_false (by rw [List.length_map]; omega)) ?_
        exact ⟨_, rfl, k _ tl ht2⟩
      | cons c rs =>
        have ef : cs.flatMap flat = dn.flatMap flat ++ flat c ++ rs.flatMap flat := by
          rw [ecs, List.flatMap_append, List.flatMap_cons, List.append_assoc]
        have c6 : small c := h6 c (by rw [ecs]; simp)
        obtain ⟨z, fr, efc, _⟩ := flat_head c
        have hfl : (flat c).length = fr.length + 1 := by rw [efc]; rfl
        refine if_true_of (decide_eq_true (by rw [List.length_map, ef, List.length_append, List.length_append]; omega)) ?_
        refine ⟨_, rfl, _, rfl, a, dn.flatMap flat, rs.flatMap flat, c, rfl, (by rw [← ef]; exact hS2), ?_⟩
        -- answered
        have ecut : cutV ((cs.flatMap flat).map V.int) (some (((dn.flatMap flat).length : Nat) : Int)) (some (((dn.flatMap flat).length + (flat c).length : Nat) : Int)) = (flat c).map V.int := by
          rw [ef, List.map_append, List.map_append]
          have e := cut_mid (a := (dn.flatMap flat).map V.int) (b := (flat c).map V.int) (c := (rs.flatMap flat).map V.int)
          rw [List.length_map, List.length_map] at e
          exact e
        refine ⟨_, rfl, _, rfl, _, rfl, _, rfl, _, rfl, _, rfl, a, _, rfl, hS2, fun q hq => ?_⟩
        have s2 : Same H2 (upd H2 q (.lst (cutV ((cs.flatMap flat).map V.int) (some (((dn.flatMap flat).length : Nat) : Int)) (some (((dn.flatMap flat).length + (flat c).length : Nat) : Int))))) := same_upd hq
        refine ⟨x, q, ran Sq37.fresh dn, c, rfl, D2.same s2, SqL.of (Eq.trans upd_same ?_), c6, fun H3 p D3 k3 of3 hp hp3 => ?_⟩
        · rw [ecut]
        have kA : Keeps H2 H3 := (Keeps.of s2).trans k3
        have ht3 := kA _ _ ht2 rfl
        have npt : p ≠ tl := fun z => by rw [z, upd_ne (ne_of_none ht2 hq), ht2] at hp; cases hp
        have npq : p ≠ q := fun z => by rw [z, upd_same] at hp; cases hp
        -- the sizes
        have hsz : (PyFlat.told (play Sq37.fresh (dn ++ [c]))).length ≤ 1000060 := by
          rw [told_len, play_len]
          have e1 : (play Sq37.fresh cs).flatten.length = (play Sq37.fresh (dn ++ [c])).flatten.length + (play (ran Sq37.fresh (dn ++ [c])) rs).flatten.length := by
            rw [ecs, show dn ++ c :: rs = (dn ++ [c]) ++ rs by simp, play_append, List.flatten_append, List.length_append]
          have e2 : cs.length = (dn ++ [c]).length + rs.length := by rw [ecs]; simp; omega
          omega
        have etl : PyFlat.told (play Sq37.fresh (dn ++ [c])) = PyFlat.told (play Sq37.fresh dn) ++ (((ansOf ((ran Sq37.fresh dn).step c).2).length : Int) :: ansOf ((ran Sq37.fresh dn).step c).2) := by
          rw [play_append, told_append]
          congr 1
          show ((ansOf ((ran Sq37.fresh dn).step c).2).length : Int) :: ansOf ((ran Sq37.fresh dn).step c).2 ++ [] = _
          rw [List.append_nil]
        have hsz2 : (PyFlat.told (play Sq37.fresh dn)).length + 1 + (ansOf ((ran Sq37.fresh dn).step c).2).length ≤ 1000060 := by
          rw [etl, List.length_append, List.length_cons] at hsz
          omega
        have ov : outV ((ran Sq37.fresh dn).step c).2 = (ansOf ((ran Sq37.fresh dn).step c).2).map V.int := rfl
        have szl : sizeLine = 16777216 := by decide
        refine ⟨_, rfl, .inl ⟨rfl, _, SqL.of ht3⟩, _, rfl, p, _, rfl, .inl (SqL.of hp3), tl, _, _, rfl, rfl, ht3, (by rw [List.length_map, szl]; omega), ?_⟩
        refine ⟨_, rfl, .inl ⟨rfl, _, SqL.of upd_same⟩, _, rfl, tl, p, _, _, rfl, rfl, upd_same, (by rw [upd_ne npt]; exact hp3), (by rw [ov, List.length_append, List.length_map, List.length_map, szl]; simp only [List.length_singleton]; omega), ?_⟩
        have oft : Off H3 x tl := of3 tl _ (s2 _ _ ht2) (by
          obtain ⟨_, _, _, X2⟩ := id D2
          exact off_ob X2.ob (s2 _ _ X2.ob) of2)
        have kB : ∀ (o1 o2 : HO) (b : Addr) (o : HO), b ≠ tl → H3 b = some o → upd (upd H3 tl o1) tl o2 b = some o := fun o1 o2 b o hb e => by
          rw [upd_ne hb, upd_ne hb]
          exact e
        refine ⟨_, rfl, ⟨dn ++ [c], rs, some (.int (((dn.flatMap flat).length + (flat c).length : Nat) : Int)), some (.ref p), (by rw [ecs]; simp), ?_, ?_, ?_, ?_, ?_⟩, ?_⟩
        · rw [List.flatMap_append, List.length_append]
          rw [show [c].flatMap flat = flat c by simp]
          rfl
        · rcases hcase with na | hall
          · rcases kA.seq hS2 with (h | ⟨o, h⟩) | h
            · exact .inl (.inl (kB _ _ _ _ na h))
            · exact .inl (.inr ⟨o, kB _ _ _ _ na h⟩)
            · exact .inr h
          · exact hall _
        · rw [ran_append]
          obtain ⟨dx3, L3, ds3, X3⟩ := D3
          have eL : L3 ≠ tl := oft _ _ _ X3.ob
          refine ⟨dx3, L3, ds3, ⟨kB _ _ _ _ (fun z => by rw [← z, X3.ob] at ht3; cases ht3) X3.ob, kB _ _ _ _ eL X3.ls, X3.nd, X3.len, X3.few, fun i sr hi => ?_⟩⟩
          obtain ⟨d, e1, ⟨ps, e2, e3⟩, e4⟩ := X3.at_ i sr hi
          exact ⟨d, e1, ⟨ps, kB _ _ _ _ (fun z => by rw [← z, e2] at ht3; cases ht3) e2, e3⟩, e4⟩
        · obtain ⟨_, _, _, X3⟩ := id D3
          exact off_ob X3.ob (kB _ _ _ _ (fun z => by rw [← z, X3.ob] at ht3; cases ht3) X3.ob) oft
        · rw [upd_same, etl, List.map_append, List.map_cons, ov, List.append_assoc, List.length_map]
          rfl
        · show (cs.flatMap flat).length - ((((dn.flatMap flat).length + (flat c).length : Nat) : Int)).toNat < (cs.flatMap flat).length - ((((dn.flatMap flat).length : Nat) : Int)).toNat
          rw [ef, List.length_append, List.length_append]
          omega
    · rintro σ H' Q1 Q2 hq ⟨a, b, c, d, e, f, g, h, i, j, k, l, m, n, o⟩
      exact ⟨a, b, c, d, e, f, g, h, i, j, k, l, m, n, hq _ _ o⟩
end
end Ac

set_option Elab.async false
set_option linter.all false
set_option maxRecDepth 100000
set_option maxHeartbeats 2000000
namespace Ac
open PySem PySem.Spec PyProof.Rows L2
def spAns (K : PySem.W.Frag) : Sp := fun vs H Q _ => ∃ (a : Addr) (ns : List Int), vs = [.ref a] ∧ SqL K H a (ns.map V.int) ∧ PySq37.answers_asked ns = true ∧
  ∀ (H' : Hp) (p : Addr), H' p = some (.lst ((PySq37.answers ns).map V.int)) → Q (.ref p) H'
theorem sp_asked {K : PySem.W.Frag} {vs : List V} {H : Hp} {Q : VK} {E : XK} (z : spAns K vs H Q E) : spAns12 K vs H Q E := by
  obtain ⟨a, ns, rfl, hS, hask, k⟩ := z
  obtain ⟨cs, rfl, h60, hsm, ean, hout⟩ := asked_calls hask
  exact ⟨a, cs, rfl, hS, hsm, h60, hout, fun H' p hp => k H' p (by rw [ean]; exact hp)⟩

theorem all_mk {P : Program} {w : World} {K : PySem.W.Frag} {h : Heap} {mg : Str → Option Value} {fa C nb : Addr} {f0 f1 f2 f3 f4 f5 f6 f7 f8 f9 f10 f11 f12 f13 f14 f15 f16 f17 f18 f19 f20 f21 f22 f23 f24 f25 : Addr} (X : K.In h) (G : h.Ns mainGlobals mg) (hfa : mg "answers" = some (.ref fa))
    {od0 an0 od1 an1 od2 an2 od3 an3 od4 an4 od5 an5 od6 an6 od7 an7 od8 an8 od9 an9 od10 an10 od11 an11 od12 an12 od13 an13 od14 an14 od15 an15 od16 an16 od17 an17 od18 an18 od19 an19 od20 an20 od21 an21 od22 an22 od23 an23 od24 an24 od25 an25 : Option Addr} {sl0 sl1 sl2 sl3 sl4 sl5 sl6 sl7 sl8 sl9 sl10 sl11 sl12 sl13 sl14 sl15 sl16 sl17 sl18 sl19 sl20 sl21 sl22 sl23 sl24 sl25 : Array (Option Value)} {oc0 kV0 dc0 pm0 cd0 ct0 oc1 kV1 dc1 pm1 cd1 ct1 oc2 kV2 dc2 pm2 cd2 ct2 oc3 kV3 dc3 pm3 cd3 ct3 oc4 kV4 dc4 pm4 cd4 ct4 oc5 kV5 dc5 pm5 cd5 ct5 oc6 kV6 dc6 pm6 cd6 ct6 oc7 kV7 dc7 pm7 cd7 ct7 oc8 kV8 dc8 pm8 cd8 ct8 oc9 kV9 dc9 pm9 cd9 ct9 oc10 kV10 dc10 pm10 cd10 ct10 oc11 kV11 dc11 pm11 cd11 ct11 oc12 kV12 dc12 pm12 cd12 ct12 oc13 kV13 dc13 pm13 cd13 ct13 oc14 kV14 dc14 pm14 cd14 ct14 oc15 kV15 dc15 pm15 cd15 ct15 oc16 kV16 dc16 pm16 cd16 ct16 oc17 kV17 dc17 pm17 cd17 ct17 oc18 kV18 dc18 pm18 cd18 ct18 oc19 kV19 dc19 pm19 cd19 ct19 oc20 kV20 dc20 pm20 cd20 ct20 oc21 kV21 dc21 pm21 cd21 ct21 oc22 kV22 dc22 pm22 cd22 ct22 oc23 kV23 dc23 pm23 cd23 ct23 oc24 kV24 dc24 pm24 cd24 ct24 oc25 kV25 dc25 pm25 cd25 ct25 : Value} {es : Array DictEntry} {ne : Nat} {t1 t2 t3 t4 : Tok}
    (aC : PySem.W.nsIn K mainGlobals "House" = some (some (.ref C)))
    (a0 : PySem.W.findIn K (.ref C) "__init__" = some (some (.ref f0))) (i0 : PySem.W.isFn K (.ref f0) = true) (l0 : K.lookup f0 = some ⟨oc0, od0, .func (PySem.W.fnOf "__init__" "House.__init__" (defArgs (inClass (top 6) 0)) (defBody (inClass (top 6) 0)) (defScope (inClass (top 6) 0)) .none kV0 dc0 pm0 an0 cd0 ct0), sl0⟩) (c0 : PySem.W.codeIn K cd0 "House.__init__" = true) (k0 : PySem.W.keepIn K (.ref f0) = true)
    (a1 : PySem.W.nsIn K mainGlobals "lacks" = some (some (.ref f1))) (l1 : K.lookup f1 = some ⟨oc1, od1, .func (PySem.W.fnOf "lacks" "lacks" (defArgs (top 7)) (defBody (top 7)) (defScope (top 7)) .none kV1 dc1 pm1 an1 cd1 ct1), sl1⟩) (c1 : PySem.W.codeIn K cd1 "lacks" = true) (k1 : PySem.W.keepIn K (.ref f1) = true)
    (a2 : PySem.W.nsIn K mainGlobals "neighbours" = some (some (.ref f2))) (l2 : K.lookup f2 = some ⟨oc2, od2, .func (PySem.W.fnOf "neighbours" "neighbours" (defArgs (top 8)) (defBody (top 8)) (defScope (top 8)) .none kV2 dc2 pm2 an2 cd2 ct2), sl2⟩) (c2 : PySem.W.codeIn K cd2 "neighbours" = true) (k2 : PySem.W.keepIn K (.ref f2) = true)
    (a3 : PySem.W.nsIn K mainGlobals "began_anew" = some (some (.ref f3))) (l3 : K.lookup f3 = some ⟨oc3, od3, .func (PySem.W.fnOf "began_anew" "began_anew" (defArgs (top 9)) (defBody (top 9)) (defScope (top 9)) .none kV3 dc3 pm3 an3 cd3 ct3), sl3⟩) (c3 : PySem.W.codeIn K cd3 "began_anew" = true) (k3 : PySem.W.keepIn K (.ref f3) = true)
    (a4 : PySem.W.nsIn K mainGlobals "counted_between" = some (some (.ref f4))) (l4 : K.lookup f4 = some ⟨oc4, od4, .func (PySem.W.fnOf "counted_between" "counted_between" (defArgs (top 10)) (defBody (top 10)) (defScope (top 10)) .none kV4 dc4 pm4 an4 cd4 ct4), sl4⟩) (c4 : PySem.W.codeIn K cd4 "counted_between" = true) (k4 : PySem.W.keepIn K (.ref f4) = true)
    (a5 : PySem.W.nsIn K mainGlobals "counted_up_to" = some (some (.ref f5))) (l5 : K.lookup f5 = some ⟨oc5, od5, .func (PySem.W.fnOf "counted_up_to" "counted_up_to" (defArgs (top 11)) (defBody (top 11)) (defScope (top 11)) .none kV5 dc5 pm5 an5 cd5 ct5), sl5⟩) (c5 : PySem.W.codeIn K cd5 "counted_up_to" = true) (k5 : PySem.W.keepIn K (.ref f5) = true)
    (a6 : PySem.W.nsIn K mainGlobals "total_between" = some (some (.ref f6))) (l6 : K.lookup f6 = some ⟨oc6, od6, .func (PySem.W.fnOf "total_between" "total_between" (defArgs (top 12)) (defBody (top 12)) (defScope (top 12)) .none kV6 dc6 pm6 an6 cd6 ct6), sl6⟩) (c6 : PySem.W.codeIn K cd6 "total_between" = true) (k6 : PySem.W.keepIn K (.ref f6) = true)
    (a7 : PySem.W.nsIn K mainGlobals "earliest_time" = some (some (.ref f7))) (l7 : K.lookup f7 = some ⟨oc7, od7, .func (PySem.W.fnOf "earliest_time" "earliest_time" (defArgs (top 13)) (defBody (top 13)) (defScope (top 13)) .none kV7 dc7 pm7 an7 cd7 ct7), sl7⟩) (c7 : PySem.W.codeIn K cd7 "earliest_time" = true) (k7 : PySem.W.keepIn K (.ref f7) = true)
    (a8 : PySem.W.nsIn K mainGlobals "exceeds" = some (some (.ref f8))) (l8 : K.lookup f8 = some ⟨oc8, od8, .func (PySem.W.fnOf "exceeds" "exceeds" (defArgs (top 14)) (defBody (top 14)) (defScope (top 14)) .none kV8 dc8 pm8 an8 cd8 ct8), sl8⟩) (c8 : PySem.W.codeIn K cd8 "exceeds" = true) (k8 : PySem.W.keepIn K (.ref f8) = true)
    (a9 : PySem.W.nsIn K mainGlobals "ranked_totals" = some (some (.ref f9))) (l9 : K.lookup f9 = some ⟨oc9, od9, .func (PySem.W.fnOf "ranked_totals" "ranked_totals" (defArgs (top 15)) (defBody (top 15)) (defScope (top 15)) .none kV9 dc9 pm9 an9 cd9 ct9), sl9⟩) (c9 : PySem.W.codeIn K cd9 "ranked_totals" = true) (k9 : PySem.W.keepIn K (.ref f9) = true)
    (a10 : PySem.W.nsIn K mainGlobals "lowest_terms" = some (some (.ref f10))) (l10 : K.lookup f10 = some ⟨oc10, od10, .func (PySem.W.fnOf "lowest_terms" "lowest_terms" (defArgs (top 16)) (defBody (top 16)) (defScope (top 16)) .none kV10 dc10 pm10 an10 cd10 ct10), sl10⟩) (c10 : PySem.W.codeIn K cd10 "lowest_terms" = true) (k10 : PySem.W.keepIn K (.ref f10) = true)
    (a11 : PySem.W.nsIn K mainGlobals "begin" = some (some (.ref f11))) (l11 : K.lookup f11 = some ⟨oc11, od11, .func (PySem.W.fnOf "begin" "begin" (defArgs (top 17)) (defBody (top 17)) (defScope (top 17)) .none kV11 dc11 pm11 an11 cd11 ct11), sl11⟩) (c11 : PySem.W.codeIn K cd11 "begin" = true) (k11 : PySem.W.keepIn K (.ref f11) = true)
    (a12 : PySem.W.nsIn K mainGlobals "sample" = some (some (.ref f12))) (l12 : K.lookup f12 = some ⟨oc12, od12, .func (PySem.W.fnOf "sample" "sample" (defArgs (top 18)) (defBody (top 18)) (defScope (top 18)) .none kV12 dc12 pm12 an12 cd12 ct12), sl12⟩) (c12 : PySem.W.codeIn K cd12 "sample" = true) (k12 : PySem.W.keepIn K (.ref f12) = true)
    (a13 : PySem.W.nsIn K mainGlobals "out" = some (some (.ref f13))) (l13 : K.lookup f13 = some ⟨oc13, od13, .func (PySem.W.fnOf "out" "out" (defArgs (top 19)) (defBody (top 19)) (defScope (top 19)) .none kV13 dc13 pm13 an13 cd13 ct13), sl13⟩) (c13 : PySem.W.codeIn K cd13 "out" = true) (k13 : PySem.W.keepIn K (.ref f13) = true)
    (a14 : PySem.W.nsIn K mainGlobals "total" = some (some (.ref f14))) (l14 : K.lookup f14 = some ⟨oc14, od14, .func (PySem.W.fnOf "total" "total" (defArgs (top 20)) (defBody (top 20)) (defScope (top 20)) .none kV14 dc14 pm14 an14 cd14 ct14), sl14⟩) (c14 : PySem.W.codeIn K cd14 "total" = true) (k14 : PySem.W.keepIn K (.ref f14) = true)
    (a15 : PySem.W.nsIn K mainGlobals "rate" = some (some (.ref f15))) (l15 : K.lookup f15 = some ⟨oc15, od15, .func (PySem.W.fnOf "rate" "rate" (defArgs (top 21)) (defBody (top 21)) (defScope (top 21)) .none kV15 dc15 pm15 an15 cd15 ct15), sl15⟩) (c15 : PySem.W.codeIn K cd15 "rate" = true) (k15 : PySem.W.keepIn K (.ref f15) = true)
    (a16 : PySem.W.nsIn K mainGlobals "anew" = some (some (.ref f16))) (l16 : K.lookup f16 = some ⟨oc16, od16, .func (PySem.W.fnOf "anew" "anew" (defArgs (top 22)) (defBody (top 22)) (defScope (top 22)) .none kV16 dc16 pm16 an16 cd16 ct16), sl16⟩) (c16 : PySem.W.codeIn K cd16 "anew" = true) (k16 : PySem.W.keepIn K (.ref f16) = true)
    (a17 : PySem.W.nsIn K mainGlobals "gaps" = some (some (.ref f17))) (l17 : K.lookup f17 = some ⟨oc17, od17, .func (PySem.W.fnOf "gaps" "gaps" (defArgs (top 23)) (defBody (top 23)) (defScope (top 23)) .none kV17 dc17 pm17 an17 cd17 ct17), sl17⟩) (c17 : PySem.W.codeIn K cd17 "gaps" = true) (k17 : PySem.W.keepIn K (.ref f17) = true)
    (a18 : PySem.W.nsIn K mainGlobals "most" = some (some (.ref f18))) (l18 : K.lookup f18 = some ⟨oc18, od18, .func (PySem.W.fnOf "most" "most" (defArgs (top 24)) (defBody (top 24)) (defScope (top 24)) .none kV18 dc18 pm18 an18 cd18 ct18), sl18⟩) (c18 : PySem.W.codeIn K cd18 "most" = true) (k18 : PySem.W.keepIn K (.ref f18) = true)
    (a19 : PySem.W.nsIn K mainGlobals "when" = some (some (.ref f19))) (l19 : K.lookup f19 = some ⟨oc19, od19, .func (PySem.W.fnOf "when" "when" (defArgs (top 25)) (defBody (top 25)) (defScope (top 25)) .none kV19 dc19 pm19 an19 cd19 ct19), sl19⟩) (c19 : PySem.W.codeIn K cd19 "when" = true) (k19 : PySem.W.keepIn K (.ref f19) = true)
    (a20 : PySem.W.nsIn K mainGlobals "sum_of" = some (some (.ref f20))) (l20 : K.lookup f20 = some ⟨oc20, od20, .func (PySem.W.fnOf "sum_of" "sum_of" (defArgs (top 26)) (defBody (top 26)) (defScope (top 26)) .none kV20 dc20 pm20 an20 cd20 ct20), sl20⟩) (c20 : PySem.W.codeIn K cd20 "sum_of" = true) (k20 : PySem.W.keepIn K (.ref f20) = true)
    (a21 : PySem.W.nsIn K mainGlobals "top" = some (some (.ref f21))) (l21 : K.lookup f21 = some ⟨oc21, od21, .func (PySem.W.fnOf "top" "top" (defArgs (top 27)) (defBody (top 27)) (defScope (top 27)) .none kV21 dc21 pm21 an21 cd21 ct21), sl21⟩) (c21 : PySem.W.codeIn K cd21 "top" = true) (k21 : PySem.W.keepIn K (.ref f21) = true)
    (a22 : PySem.W.nsIn K mainGlobals "list_of" = some (some (.ref f22))) (l22 : K.lookup f22 = some ⟨oc22, od22, .func (PySem.W.fnOf "list_of" "list_of" (defArgs (top 28)) (defBody (top 28)) (defScope (top 28)) .none kV22 dc22 pm22 an22 cd22 ct22), sl22⟩) (c22 : PySem.W.codeIn K cd22 "list_of" = true) (k22 : PySem.W.keepIn K (.ref f22) = true)
    (a23 : PySem.W.nsIn K mainGlobals "answer_call" = some (some (.ref f23))) (l23 : K.lookup f23 = some ⟨oc23, od23, .func (PySem.W.fnOf "answer_call" "answer_call" (defArgs (top 29)) (defBody (top 29)) (defScope (top 29)) .none kV23 dc23 pm23 an23 cd23 ct23), sl23⟩) (c23 : PySem.W.codeIn K cd23 "answer_call" = true) (k23 : PySem.W.keepIn K (.ref f23) = true)
    (a24 : PySem.W.nsIn K mainGlobals "end_of_call" = some (some (.ref f24))) (l24 : K.lookup f24 = some ⟨oc24, od24, .func (PySem.W.fnOf "end_of_call" "end_of_call" (defArgs (top 30)) (defBody (top 30)) (defScope (top 30)) .none kV24 dc24 pm24 an24 cd24 ct24), sl24⟩) (c24 : PySem.W.codeIn K cd24 "end_of_call" = true) (k24 : PySem.W.keepIn K (.ref f24) = true)
    (a25 : PySem.W.nsIn K mainGlobals "answers" = some (some (.ref f25))) (l25 : K.lookup f25 = some ⟨oc25, od25, .func (PySem.W.fnOf "answers" "answers" (defArgs (top 31)) (defBody (top 31)) (defScope (top 31)) .none kV25 dc25 pm25 an25 cd25 ct25), sl25⟩) (c25 : PySem.W.codeIn K cd25 "answers" = true) (k25 : PySem.W.keepIn K (.ref f25) = true)
    (pg : PySem.W.plainGet K C Str.empty = true) (hd : PySem.W.hasDictIn K C = true) (po : PySem.W.plainOver K C = true) (sa : PySem.W.findIn K (.ref C) "__setattr__" = some (some (.builtin "object.__setattr__"))) (mk : PySem.W.makesIn K C = true) (kc : PySem.W.keepIn K (.ref C) = true) (nS : PySem.W.findIn K (.ref C) "series" = some none)
    (z0 : PySem.W.nsIn K mainGlobals "len" = some none)
    (z1 : PySem.W.nsIn K mainGlobals "sorted" = some none)
    (z2 : PySem.W.nsIn K mainGlobals "list" = some none)
    (z3 : PySem.W.nsIn K mainGlobals "zip" = some none)
    (z4 : PySem.W.nsIn K mainGlobals "min" = some none)
    (z5 : PySem.W.nsIn K mainGlobals "max" = some none)
    (z6 : PySem.W.nsIn K mainGlobals "range" = some none)
    (z7 : PySem.W.nsIn K mainGlobals "any" = some none)
    (z8 : PySem.W.nsIn K mainGlobals "enumerate" = some none)
    (y0 : PySem.W.nsIn K mainGlobals "MOST_SERIES" = some (some (.int 8 t1)))
    (y1 : PySem.W.nsIn K mainGlobals "MOST_SAMPLES" = some (some (.int 60 t2)))
    (y2 : PySem.W.nsIn K mainGlobals "LATEST_TIME" = some (some (.int 1000000 t3)))
    (y3 : PySem.W.nsIn K mainGlobals "MOST_SHOWN" = some (some (.int 1000000000 t4)))
    (ynb : PySem.W.nsIn K mainGlobals "NUMBERS_BEHIND" = some (some (.ref nb))) (lnb : K.lookup nb = some ⟨.type "dict", none, .dict es ne, #[]⟩) (inb : intsOf es.toList = some [(1, 1), (2, 3), (3, 2), (4, 3), (5, 3), (6, 3), (7, 2), (8, 2), (9, 3), (10, 3), (11, 3), (12, 1)])
    : ∃ fd : FuncData, (∀ (s : Shared) (us : List Value), us.length = (["calls"] : List Str).length → BindsTo s fd ⟨us, []⟩ ((["calls"] : List Str).zip us)) ∧ ∀ base : Heap, K.In base → base.Ns mainGlobals mg → FnOk P w K mg base CX0 8 fa fd ["calls"] (spAns K) := by
  have e := hfa.symm.trans (PySem.W.mg_of X G a25)
  cases e
  have T : TxtH K C := ⟨⟨pg, hd, po, sa⟩, nS⟩
  have mLen := PySem.W.mg_none_of X G z0
  have mSorted := PySem.W.mg_none_of X G z1
  have mList := PySem.W.mg_none_of X G z2
  have mZip := PySem.W.mg_none_of X G z3
  have mMin := PySem.W.mg_none_of X G z4
  have mMax := PySem.W.mg_none_of X G z5
  have mRange := PySem.W.mg_none_of X G z6
  have mAny := PySem.W.mg_none_of X G z7
  have mEnum := PySem.W.mg_none_of X G z8
  have mMS := PySem.W.mg_of X G y0
  have mSa := PySem.W.mg_of X G y1
  have mLT := PySem.W.mg_of X G y2
  have mSh := PySem.W.mg_of X G y3
  have mNB := PySem.W.mg_of X G ynb
  have mC := PySem.W.mg_of X G aC
  have kNB : KDI K nb nb12 := ⟨es, ne, lnb, inb⟩
  have F0 := fun_mk (st := sInit) l0 c0 k0
  have b0 := F0.binds (ps := ["self"]) fun _ _ _ _ _ _ us hl => match us, hl with | [_], _ => rfl
  have F1 := fun_mk (st := top 7) l1 c1 k1
  have F2 := fun_mk (st := top 8) l2 c2 k2
  have F3 := fun_mk (st := top 9) l3 c3 k3
  have F4 := fun_mk (st := top 10) l4 c4 k4
  have F5 := fun_mk (st := top 11) l5 c5 k5
  have F6 := fun_mk (st := top 12) l6 c6 k6
  have F7 := fun_mk (st := top 13) l7 c7 k7
  have F8 := fun_mk (st := top 14) l8 c8 k8
  have F9 := fun_mk (st := top 15) l9 c9 k9
  have F10 := fun_mk (st := top 16) l10 c10 k10
  have F11 := fun_mk (st := top 17) l11 c11 k11
  have F12 := fun_mk (st := top 18) l12 c12 k12
  have F13 := fun_mk (st := top 19) l13 c13 k13
  have F14 := fun_mk (st := top 20) l14 c14 k14
  have F15 := fun_mk (st := top 21) l15 c15 k15
  have F16 := fun_mk (st := top 22) l16 c16 k16
  have F17 := fun_mk (st := top 23) l17 c17 k17
  have F18 := fun_mk (st := top 24) l18 c18 k18
  have F19 := fun_mk (st := top 25) l19 c19 k19
  have F20 := fun_mk (st := top 26) l20 c20 k20
  have F21 := fun_mk (st := top 27) l21 c21 k21
  have F22 := fun_mk (st := top 28) l22 c22 k22
  have F23 := fun_mk (st := top 29) l23 c23 k23
  have F24 := fun_mk (st := top 30) l24 c24 k24
  have F25 := fun_mk (st := top 31) l25 c25 k25
  refine ⟨PySem.W.fnOf "answers" "answers" (defArgs sAns) (defBody sAns) (defScope sAns) .none kV25 dc25 pm25 an25 cd25 ct25, fun s us hu => match us, hu with | [_], _ => .of_eq rfl, fun base _ _ => ?_⟩
  have D_lacks : Df P w K mg base "lacks" 1 ["house", "series"] (spLacks C) := ⟨_, _, ok_lacks F1 T mLen, PySem.W.mg_of X G a1, k1, F1.binds (ps := ["house", "series"]) fun _ _ _ _ _ _ us hl => match us, hl with | [_, _], _ => rfl⟩
  have D_neighbours : Df P w K mg base "neighbours" 1 ["samples"] (spNbr) := ⟨_, _, ok_nbr F2 mSorted mList mZip, PySem.W.mg_of X G a2, k2, F2.binds (ps := ["samples"]) fun _ _ _ _ _ _ us hl => match us, hl with | [_], _ => rfl⟩
  have D_began_anew : Df P w K mg base "began_anew" 1 ["before", "after"] (spBeg) := ⟨_, _, ok_beg F3, PySem.W.mg_of X G a3, k3, F3.binds (ps := ["before", "after"]) fun _ _ _ _ _ _ us hl => match us, hl with | [_, _], _ => rfl⟩
  have D_counted_between : Df P w K mg base "counted_between" 2 ["before", "after"] (spBet) := ⟨_, _, ok_bet F4 D_began_anew, PySem.W.mg_of X G a4, k4, F4.binds (ps := ["before", "after"]) fun _ _ _ _ _ _ us hl => match us, hl with | [_, _], _ => rfl⟩
  have D_counted_up_to : Df P w K mg base "counted_up_to" 3 ["samples", "time"] (spUpI) := ⟨_, _, ok_up F5 mLen mMin mMax D_neighbours D_counted_between, PySem.W.mg_of X G a5, k5, F5.binds (ps := ["samples", "time"]) fun _ _ _ _ _ _ us hl => match us, hl with | [_, _], _ => rfl⟩
  have DU' : Df P w K mg base "counted_up_to" 3 ["samples", "time"] spUp := D_counted_up_to.imp fun _ _ _ _ z => Or.inl z
  have D_total_between : Df P w K mg base "total_between" 4 ["samples", "a", "b"] (spTotI) := ⟨_, _, ok_tot F6 D_counted_up_to, PySem.W.mg_of X G a6, k6, F6.binds (ps := ["samples", "a", "b"]) fun _ _ _ _ _ _ us hl => match us, hl with | [_, _, _], _ => rfl⟩
  have DT' : Df P w K mg base "total_between" 4 ["samples", "a", "b"] spTot := D_total_between.imp fun _ _ _ _ z => Or.inl z
  have D_earliest_time : Df P w K mg base "earliest_time" 3 ["samples", "upper", "lower"] (spEar) := ⟨_, _, ok_ear F7 D_neighbours D_counted_between, PySem.W.mg_of X G a7, k7, F7.binds (ps := ["samples", "upper", "lower"]) fun _ _ _ _ _ _ us hl => match us, hl with | [_, _, _], _ => rfl⟩
  have D_exceeds : Df P w K mg base "exceeds" 1 ["one", "other"] (spExc) := ⟨_, _, ok_exc F8, PySem.W.mg_of X G a8, k8, F8.binds (ps := ["one", "other"]) fun _ _ _ _ _ _ us hl => match us, hl with | [_, _], _ => rfl⟩
  have D_ranked_totals : Df P w K mg base "ranked_totals" 5 ["house", "a", "b"] (spRank C) := ⟨_, _, ok_rank F9 T DT' D_exceeds mEnum mLen, PySem.W.mg_of X G a9, k9, F9.binds (ps := ["house", "a", "b"]) fun _ _ _ _ _ _ us hl => match us, hl with | [_, _, _], _ => rfl⟩
  have D_lowest_terms : Df P w K mg base "lowest_terms" 1 ["upper", "lower"] (spLow) := ⟨_, _, ok_low F10, PySem.W.mg_of X G a10, k10, F10.binds (ps := ["upper", "lower"]) fun _ _ _ _ _ _ us hl => match us, hl with | [_, _], _ => rfl⟩
  have D_begin : Df P w K mg base "begin" 1 ["house", "series"] (spBeginC C) := ⟨_, _, ok_begin F11 T mMS mRange, PySem.W.mg_of X G a11, k11, F11.binds (ps := ["house", "series"]) fun _ _ _ _ _ _ us hl => match us, hl with | [_, _], _ => rfl⟩
  have D_sample : Df P w K mg base "sample" 2 ["house", "series", "time", "shows"] (spSampleC C) := ⟨_, _, ok_sample F12 T D_lacks mLen mLT mSh mSa, PySem.W.mg_of X G a12, k12, F12.binds (ps := ["house", "series", "time", "shows"]) fun _ _ _ _ _ _ us hl => match us, hl with | [_, _, _, _], _ => rfl⟩
  have D_out : Df P w K mg base "out" 2 ["house", "series", "time"] (spOutC C) := ⟨_, _, ok_out F13 T D_lacks mLen, PySem.W.mg_of X G a13, k13, F13.binds (ps := ["house", "series", "time"]) fun _ _ _ _ _ _ us hl => match us, hl with | [_, _, _], _ => rfl⟩
  have D_total : Df P w K mg base "total" 5 ["house", "series", "a", "b"] (spTotalC C) := ⟨_, _, ok_total F14 T D_lacks DT' D_lowest_terms, PySem.W.mg_of X G a14, k14, F14.binds (ps := ["house", "series", "a", "b"]) fun _ _ _ _ _ _ us hl => match us, hl with | [_, _, _, _], _ => rfl⟩
  have D_rate : Df P w K mg base "rate" 5 ["house", "series", "a", "b"] (spRateC C) := ⟨_, _, ok_rate F15 T D_lacks DT' D_lowest_terms, PySem.W.mg_of X G a15, k15, F15.binds (ps := ["house", "series", "a", "b"]) fun _ _ _ _ _ _ us hl => match us, hl with | [_, _, _, _], _ => rfl⟩
  have D_anew : Df P w K mg base "anew" 2 ["house", "series", "a", "b"] (spAnewC C) := ⟨_, _, ok_anew F16 T D_lacks D_neighbours D_began_anew, PySem.W.mg_of X G a16, k16, F16.binds (ps := ["house", "series", "a", "b"]) fun _ _ _ _ _ _ us hl => match us, hl with | [_, _, _, _], _ => rfl⟩
  have D_gaps : Df P w K mg base "gaps" 2 ["house", "series", "g"] (spGapsC C) := ⟨_, _, ok_gaps F17 T D_lacks D_neighbours, PySem.W.mg_of X G a17, k17, F17.binds (ps := ["house", "series", "g"]) fun _ _ _ _ _ _ us hl => match us, hl with | [_, _, _], _ => rfl⟩
  have D_most : Df P w K mg base "most" 5 ["house", "series", "w"] (spMostC C) := ⟨_, _, ok_most F18 T D_lacks D_total_between D_exceeds D_lowest_terms mSorted mList, PySem.W.mg_of X G a18, k18, F18.binds (ps := ["house", "series", "w"]) fun _ _ _ _ _ _ us hl => match us, hl with | [_, _, _], _ => rfl⟩
  have D_when : Df P w K mg base "when" 4 ["house", "series", "a", "x"] (spWhenC C) := ⟨_, _, ok_when F19 T D_lacks DU' D_earliest_time D_lowest_terms, PySem.W.mg_of X G a19, k19, F19.binds (ps := ["house", "series", "a", "x"]) fun _ _ _ _ _ _ us hl => match us, hl with | [_, _, _, _], _ => rfl⟩
  have D_sum_of : Df P w K mg base "sum_of" 5 ["house", "a", "b", "some"] (spSumC K C) := ⟨_, _, ok_sum F20 T D_lacks DT' D_lowest_terms mAny mEnum, PySem.W.mg_of X G a20, k20, F20.binds (ps := ["house", "a", "b", "some"]) fun _ _ _ _ _ _ us hl => match us, hl with | [_, _, _, _], _ => rfl⟩
  have D_top : Df P w K mg base "top" 6 ["house", "n", "a", "b"] (spTopC C) := ⟨_, _, ok_top F21 D_ranked_totals D_lowest_terms mLen mMin, PySem.W.mg_of X G a21, k21, F21.binds (ps := ["house", "n", "a", "b"]) fun _ _ _ _ _ _ us hl => match us, hl with | [_, _, _, _], _ => rfl⟩
  have D_list_of : Df P w K mg base "list_of" 2 ["house", "series"] (spListC C) := ⟨_, _, ok_list F22 T D_lacks mLen mSorted, PySem.W.mg_of X G a22, k22, F22.binds (ps := ["house", "series"]) fun _ _ _ _ _ _ us hl => match us, hl with | [_, _], _ => rfl⟩
  have D_answer_call : Df P w K mg base "answer_call" 7 ["house", "call"] (spAC K C) := ⟨_, _, ok_ac F23 D_begin D_sample D_out D_total D_rate D_anew D_gaps D_most D_when D_sum_of D_top D_list_of, PySem.W.mg_of X G a23, k23, F23.binds (ps := ["house", "call"]) fun _ _ _ _ _ _ us hl => match us, hl with | [_, _], _ => rfl⟩
  have D_end_of_call : Df P w K mg base "end_of_call" 1 ["calls", "at"] (spEnd K) := ⟨_, _, ok_end F24 mNB kNB, PySem.W.mg_of X G a24, k24, F24.binds (ps := ["calls", "at"]) fun _ _ _ _ _ _ us hl => match us, hl with | [_, _], _ => rfl⟩
  exact (ok_ans F25 ⟨mk, a0, i0, kc⟩ (ok_init F0 T) b0 mC mLen D_end_of_call D_answer_call).imp fun vs H Q E z => sp_asked z
end Ac
open PySem PySem.W PyProof.Rows
set_option maxRecDepth 100000 in
set_option maxHeartbeats 8000000 in
theorem PySem.Challenge.cw_anewcounts_s01_answers_holds : PySem.Challenge.rw_anewcounts_s01_answers.Holds := by
  w_on; k_headS; (case hw => exact ⟨[.list [.int 1, .int 1]], by decide +kernel, by decide +kernel⟩)
  k_fillS
  refine L2.walk_specK (r := PySem.Challenge.rw_anewcounts_s01_answers) (k := 8) (CX := L2.CX0) (ps := ["calls"]) (sp := Ac.spAns) (by decide +kernel) rfl rfl ⟨rfl, by decide, by decide⟩ (fun w h Y => PySem.W.kIn_of Y) ?F ?S (fun _ _ _ _ z => z)
  case F =>
    intro w mg fa h Y KX G hmg
    refine' Ac.all_mk KX G hmg ?aC ?a0 ?i0 ?l0 ?c0 ?k0 ?a1 ?l1 ?c1 ?k1 ?a2 ?l2 ?c2 ?k2 ?a3 ?l3 ?c3 ?k3 ?a4 ?l4 ?c4 ?k4 ?a5 ?l5 ?c5 ?k5 ?a6 ?l6 ?c6 ?k6 ?a7 ?l7 ?c7 ?k7 ?a8 ?l8 ?c8 ?k8 ?a9 ?l9 ?c9 ?k9 ?a10 ?l10 ?c10 ?k10 ?a11 ?l11 ?c11 ?k11 ?a12 ?l12 ?c12 ?k12 ?a13 ?l13 ?c13 ?k13 ?a14 ?l14 ?c14 ?k14 ?a15 ?l15 ?c15 ?k15 ?a16 ?l16 ?c16 ?k16 ?a17 ?l17 ?c17 ?k17 ?a18 ?l18 ?c18 ?k18 ?a19 ?l19 ?c19 ?k19 ?a20 ?l20 ?c20 ?k20 ?a21 ?l21 ?c21 ?k21 ?a22 ?l22 ?c22 ?k22 ?a23 ?l23 ?c23 ?k23 ?a24 ?l24 ?c24 ?k24 ?a25 ?l25 ?c25 ?k25 ?pg ?hd ?po ?sa ?mk ?kc ?nS ?z0 ?z1 ?z2 ?z3 ?z4 ?z5 ?z6 ?z7 ?z8 ?y0 ?y1 ?y2 ?y3 ?ynb ?lnb ?inb
    (case aC => k_is)
    (case a0 => k_is)
    (case i0 => k_is)
    (case l0 => k_is)
    (case c0 => k_is)
    (case k0 => k_is)
    (case a1 => k_is)
    (case l1 => k_is)
    (case c1 => k_is)
    (case k1 => k_is)
    (case a2 => k_is)
    (case l2 => k_is)
    (case c2 => k_is)
    (case k2 => k_is)
    (case a3 => k_is)
    (case l3 => k_is)
    (case c3 => k_is)
    (case k3 => k_is)
    (case a4 => k_is)
    (case l4 => k_is)
    (case c4 => k_is)
    (case k4 => k_is)
    (case a5 => k_is)
    (case l5 => k_is)
    (case c5 => k_is)
    (case k5 => k_is)
    (case a6 => k_is)
    (case l6 => k_is)
    (case c6 => k_is)
    (case k6 => k_is)
    (case a7 => k_is)
    (case l7 => k_is)
    (case c7 => k_is)
    (case k7 => k_is)
    (case a8 => k_is)
    (case l8 => k_is)
    (case c8 => k_is)
    (case k8 => k_is)
    (case a9 => k_is)
    (case l9 => k_is)
    (case c9 => k_is)
    (case k9 => k_is)
    (case a10 => k_is)
    (case l10 => k_is)
    (case c10 => k_is)
    (case k10 => k_is)
    (case a11 => k_is)
    (case l11 => k_is)
    (case c11 => k_is)
    (case k11 => k_is)
    (case a12 => k_is)
    (case l12 => k_is)
    (case c12 => k_is)
    (case k12 => k_is)
    (case a13 => k_is)
    (case l13 => k_is)
    (case c13 => k_is)
    (case k13 => k_is)
    (case a14 => k_is)
    (case l14 => k_is)
    (case c14 => k_is)
    (case k14 => k_is)
    (case a15 => k_is)
    (case l15 => k_is)
    (case c15 => k_is)
    (case k15 => k_is)
    (case a16 => k_is)
    (case l16 => k_is)
    (case c16 => k_is)
    (case k16 => k_is)
    (case a17 => k_is)
    (case l17 => k_is)
    (case c17 => k_is)
    (case k17 => k_is)
    (case a18 => k_is)
    (case l18 => k_is)
    (case c18 => k_is)
    (case k18 => k_is)
    (case a19 => k_is)
    (case l19 => k_is)
    (case c19 => k_is)
    (case k19 => k_is)
    (case a20 => k_is)
    (case l20 => k_is)
    (case c20 => k_is)
    (case k20 => k_is)
    (case a21 => k_is)
    (case l21 => k_is)
    (case c21 => k_is)
    (case k21 => k_is)
    (case a22 => k_is)
    (case l22 => k_is)
    (case c22 => k_is)
    (case k22 => k_is)
    (case a23 => k_is)
    (case l23 => k_is)
    (case c23 => k_is)
    (case k23 => k_is)
    (case a24 => k_is)
    (case l24 => k_is)
    (case c24 => k_is)
    (case k24 => k_is)
    (case a25 => k_is)
    (case l25 => k_is)
    (case c25 => k_is)
    (case k25 => k_is)
    (case pg => k_is)
    (case hd => k_is)
    (case po => k_is)
    (case sa => k_is)
    (case mk => k_is)
    (case kc => k_is)
    (case nS => k_is)
    (case z0 => k_is)
    (case z1 => k_is)
    (case z2 => k_is)
    (case z3 => k_is)
    (case z4 => k_is)
    (case z5 => k_is)
    (case z6 => k_is)
    (case z7 => k_is)
    (case z8 => k_is)
    (case y0 => k_is)
    (case y1 => k_is)
    (case y2 => k_is)
    (case y3 => k_is)
    (case ynb => k_is)
    (case lnb => k_is)
    (case inb => first | rfl | decide +kernel)
  case S =>
    intro K H xs a hO hwi hask hx
    cases hx with
    | cons h1 h2 =>
      cases h2
      cases h1 with
      | lst hs ha =>
        have e := L2.ints_dw a.1 _ ha
        subst e
        exact ⟨_, a.1, rfl, hs, hask, fun H' p hp => .lst (L2.SqL.of hp) (L2.dw_ints _)⟩

