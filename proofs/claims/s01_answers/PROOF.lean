import PyProof.Rows.All
import Wide.All
import OpenK.AllK
import Wide.FinOn
import Open.SpecLaws
import KE.OsHead
import KE.OsGo
import HandS.ForSpec
import HandS.Comp
import HandS.Iter
import HandS.Walk
import HandS.Text
import PySem.Challenge.RW_scrapcrates_s01_answers
set_option Elab.async false
set_option maxHeartbeats 1000000
/-! Mathematics of the yard: bounds, what is wrong, melts by rising number. -/
namespace Scrap
open Sj14
structure GoodC (c : Crate) : Prop where
  lo : 1 ≤ c.heavy
  hi : c.heavy ≤ 200
  cz : c.copper + c.zinc ≤ 1000
  pr : c.price ≤ 1000
structure GoodW (w : Wanted) : Prop where
  a1 : 1 ≤ w.light
  a2 : w.light ≤ w.heavy
  a3 : w.heavy ≤ 1000
  b2 : w.copperLow ≤ w.copperHigh
  b3 : w.copperHigh ≤ 1000
  c2 : w.zincLow ≤ w.zincHigh
  c3 : w.zincHigh ≤ 1000
structure Good (y : Yard) : Prop where
  cnt : y.crates.length ≤ 8
  all : ∀ c ∈ y.crates, GoodC c
  w : GoodW y.wanted
theorem good_init : Good Sj14.init := ⟨by decide, fun c h => (by cases h), ⟨by decide, by decide, by decide, by decide, by decide, by decide, by decide⟩⟩
theorem crate_at {y : Yard} {i : Nat} {c : Crate} (h : y.crates[i]? = some c) : y.crate i = c := by
  unfold Yard.crate
  rw [List.getD_eq_getElem?_getD, h]
  rfl
theorem crate_good {y : Yard} (G : Good y) {i : Nat} (h : i < y.count) : GoodC (y.crate i) := by
  have e : y.crates[i]? = some (y.crates[i]'h) := List.getElem?_eq_getElem h
  rw [crate_at e]
  exact G.all _ (List.getElem_mem h)
theorem mem_members {y : Yard} {s i : Nat} : i ∈ y.members s ↔ i < y.count ∧ s.testBit i = true := by
  unfold Yard.members
  rw [List.mem_filter, List.mem_range]
theorem sum_le {α : Type} (f : α → Nat) (b : Nat) : ∀ (l : List α), (∀ x ∈ l, f x ≤ b) → (l.map f).sum ≤ l.length * b
  | [], _ => by simp
  | x :: r, h => by
    have ih := sum_le f b r (fun z hz => h z (List.mem_cons_of_mem _ hz))
    have hx := h x List.mem_cons_self
    rw [List.map_cons, List.sum_cons, List.length_cons, Nat.add_mul, Nat.one_mul]
    omega
theorem le_sum {α : Type} (f : α → Nat) : ∀ (l : List α) (x : α), x ∈ l → f x ≤ (l.map f).sum
  | [], _, h => by cases h
  | a :: r, x, h => by
    rw [List.map_cons, List.sum_cons]
    rcases List.mem_cons.mp h with rfl | h
    · omega
    · have := le_sum f r x h
      omega
theorem members_len (y : Yard) (s : Nat) : (y.members s).length ≤ y.count := by
  have h := List.length_filter_le (fun i => s.testBit i) (List.range y.count)
  rw [List.length_range] at h
  exact h
theorem mul_bound {a b n m : Nat} (h1 : a ≤ n) (h2 : b ≤ m) : a * b ≤ n * m := Nat.mul_le_mul h1 h2
section
variable {y : Yard} (G : Good y) (s : Nat)
include G
theorem size_le : y.size s ≤ 8 := Nat.le_trans (members_len y s) G.cnt
theorem heavy_le : y.heavy s ≤ 1600 := by
  have h := sum_le (fun i => (y.crate i).heavy) 200 (y.members s) fun i hi => (crate_good G (mem_members.mp hi).1).hi
  have h2 := size_le G s
  unfold Yard.size at h2
  have h3 : (y.members s).length * 200 ≤ 8 * 200 := Nat.mul_le_mul h2 (Nat.le_refl _)
  exact Nat.le_trans h (Nat.le_trans h3 (by decide))
theorem price_le : y.price s ≤ 8000 := by
  have h := sum_le (fun i => (y.crate i).price) 1000 (y.members s) fun i hi => (crate_good G (mem_members.mp hi).1).pr
  have h2 := size_le G s
  unfold Yard.size at h2
  have h3 : (y.members s).length * 1000 ≤ 8 * 1000 := Nat.mul_le_mul h2 (Nat.le_refl _)
  exact Nat.le_trans h (Nat.le_trans h3 (by decide))
theorem copper_le : y.copper s ≤ 1600000 := by
  have h := sum_le (fun i => (y.crate i).heavy * (y.crate i).copper) 200000 (y.members s) fun i hi => by
    have g := crate_good G (mem_members.mp hi).1
    have g1 := g.hi
    have g2 := g.cz
    exact mul_bound (n := 200) (m := 1000) g1 (by omega)
  have h2 := size_le G s
  unfold Yard.size at h2
  have h3 : (y.members s).length * 200000 ≤ 8 * 200000 := Nat.mul_le_mul h2 (Nat.le_refl _)
  exact Nat.le_trans h (Nat.le_trans h3 (by decide))
theorem zinc_le : y.zinc s ≤ 1600000 := by
  have h := sum_le (fun i => (y.crate i).heavy * (y.crate i).zinc) 200000 (y.members s) fun i hi => by
    have g := crate_good G (mem_members.mp hi).1
    have g1 := g.hi
    have g2 := g.cz
    exact mul_bound (n := 200) (m := 1000) g1 (by omega)
  have h2 := size_le G s
  unfold Yard.size at h2
  have h3 : (y.members s).length * 200000 ≤ 8 * 200000 := Nat.mul_le_mul h2 (Nat.le_refl _)
  exact Nat.le_trans h (Nat.le_trans h3 (by decide))
theorem heavy_pos (h1 : 1 ≤ s) (h2 : s < 2 ^ y.count) : 1 ≤ y.heavy s := by
  obtain ⟨i, hi⟩ := Nat.exists_testBit_of_ne_zero (show s ≠ 0 by omega)
  have hlt : i < y.count := by
    rcases Nat.lt_or_ge i y.count with h | h
    · exact h
    · have hp : 2 ^ y.count ≤ 2 ^ i := Nat.pow_le_pow_right (by decide) h
      rw [Nat.testBit_lt_two_pow (Nat.lt_of_lt_of_le h2 hp)] at hi
      cases hi
  have hm : i ∈ y.members s := mem_members.mpr ⟨hlt, hi⟩
  exact Nat.le_trans (crate_good G hlt).lo (le_sum (fun i => (y.crate i).heavy) _ i hm)
end
theorem members_zero (y : Yard) : y.members 0 = [] := by
  unfold Yard.members
  rw [List.filter_eq_nil_iff]
  intro i _
  simp
theorem heavy_zero (y : Yard) : y.heavy 0 = 0 := by
  unfold Yard.heavy
  rw [members_zero]
  rfl
theorem wrong_zero (y : Yard) : y.wrong 0 = 1 := by
  unfold Yard.wrong
  simp only [heavy_zero]
  exact if_pos (Or.inr (Or.inr trivial))
theorem right_zero (y : Yard) : y.right 0 = false := by
  unfold Yard.right
  rw [wrong_zero]
  simp
/-! ### melts by rising number -/
def upto (y : Yard) (n : Nat) : List Nat := (List.range n).filter y.right
theorem upto_one (y : Yard) : upto y 1 = [] := by
  unfold upto
  rw [show List.range 1 = [0] from rfl, List.filter_cons, right_zero]
  rfl
theorem upto_succ (y : Yard) (n : Nat) : upto y (n + 1) = upto y n ++ (if y.right n = true then [n] else []) := by
  unfold upto
  rw [List.range_succ, List.filter_append, List.filter_cons]
  congr 1
theorem upto_all (y : Yard) : upto y (2 ^ y.count) = y.melts := rfl
theorem upto_len (y : Yard) (n : Nat) : (upto y n).length ≤ n := by
  unfold upto
  have h := List.length_filter_le y.right (List.range n)
  rw [List.length_range] at h
  exact h
theorem right_at {y : Yard} {n : Nat} (h : n < 2 ^ y.count) : y.right n = (y.wrong n == 0) := by
  unfold Yard.right
  rw [decide_eq_true h, Bool.true_and]
theorem pow_count {y : Yard} (G : Good y) : 2 ^ y.count ≤ 256 := by
  have h : 2 ^ y.count ≤ 2 ^ 8 := Nat.pow_le_pow_right (by decide) G.cnt
  exact h
theorem mem_melts {y : Yard} {s : Nat} (h : s ∈ y.melts) : 1 ≤ s ∧ s < 2 ^ y.count ∧ y.wrong s = 0 := by
  unfold Yard.melts at h
  rw [List.mem_filter, List.mem_range] at h
  obtain ⟨h1, h2⟩ := h
  rw [right_at h1] at h2
  refine ⟨?_, h1, eq_of_beq h2⟩
  rcases Nat.eq_zero_or_pos s with e | e
  · subst e
    rw [wrong_zero] at h2
    cases h2
  · exact e
/-! ### what is wrong, as it is reckoned -/
def inLim (x w lo hi : Int) : Bool := decide (lo * w ≤ x) && decide (x ≤ hi * w)
def wrongI (h c z : Int) (w : Wanted) : Int :=
  if (!inLim h 1 w.light w.heavy) = true then 1 else if (!inLim c h w.copperLow w.copperHigh) = true then 2 else if (!inLim z h w.zincLow w.zincHigh) = true then 3 else 0
theorem inLim_nat (x w lo hi : Nat) : inLim (x : Int) (w : Int) (lo : Int) (hi : Int) = (decide (lo * w ≤ x) && decide (x ≤ hi * w)) := by
  unfold inLim
  rw [← Int.natCast_mul, ← Int.natCast_mul]
  congr 1
  · exact decide_eq_decide.mpr Int.ofNat_le
  · exact decide_eq_decide.mpr Int.ofNat_le
theorem not_inLim {x w lo hi : Nat} : (!inLim (x : Int) (w : Int) (lo : Int) (hi : Int)) = true ↔ (x < lo * w ∨ hi * w < x) := by
  rw [inLim_nat]
  rw [Bool.not_eq_true', Bool.and_eq_false_iff, decide_eq_false_iff_not, decide_eq_false_iff_not]
  omega
theorem wrong_eq {y : Yard} {s : Nat} (h : 1 ≤ y.heavy s) : wrongI (y.heavy s) (y.copper s) (y.zinc s) y.wanted = ((y.wrong s : Nat) : Int) := by
  unfold wrongI
  unfold Yard.wrong
  dsimp only
  by_cases h1 : y.heavy s < y.wanted.light ∨ y.wanted.heavy < y.heavy s ∨ y.heavy s = 0
  · rw [if_pos h1, if_pos]
    · rfl
    · have := not_inLim (x := y.heavy s) (w := 1) (lo := y.wanted.light) (hi := y.wanted.heavy)
      exact this.mpr (by omega)
  · rw [if_neg h1, if_neg (c := (!inLim _ 1 _ _) = true)]
    · by_cases h2 : y.copper s < y.wanted.copperLow * y.heavy s ∨ y.wanted.copperHigh * y.heavy s < y.copper s
      · rw [if_pos h2, if_pos (not_inLim.mpr h2)]
        rfl
      · rw [if_neg h2, if_neg (fun q => h2 (not_inLim.mp q))]
        by_cases h3 : y.zinc s < y.wanted.zincLow * y.heavy s ∨ y.wanted.zincHigh * y.heavy s < y.zinc s
        · rw [if_pos h3, if_pos (not_inLim.mpr h3)]
          rfl
        · rw [if_neg h3, if_neg (fun q => h3 (not_inLim.mp q))]
          rfl
    · have := not_inLim (x := y.heavy s) (w := 1) (lo := y.wanted.light) (hi := y.wanted.heavy)
      exact fun q => h1 (by have := this.mp q; omega)
/-! ### fractions in lowest terms -/
theorem gcd_turn (d r : Nat) : Nat.gcd r (d % r) = Nat.gcd d r := by
  rw [Nat.gcd_comm d r, Nat.gcd_rec r d, Nat.gcd_comm]
theorem parts_eq {a b c d : Nat} (hb : 0 < b) (hd : 0 < d) : (parts a b = parts c d) ↔ a * d = c * b := by
  have g1 : 0 < Nat.gcd a b := Nat.gcd_pos_of_pos_right _ hb
  have g2 : 0 < Nat.gcd c d := Nat.gcd_pos_of_pos_right _ hd
  obtain ⟨a', ha⟩ := Nat.gcd_dvd_left a b
  obtain ⟨b', hb'⟩ := Nat.gcd_dvd_right a b
  obtain ⟨c', hc⟩ := Nat.gcd_dvd_left c d
  obtain ⟨d', hd'⟩ := Nat.gcd_dvd_right c d
  have ea : a / Nat.gcd a b = a' := by
    conv => lhs; lhs; rw [ha]
    exact Nat.mul_div_cancel_left _ g1
  have eb : b / Nat.gcd a b = b' := by
    conv => lhs; lhs; rw [hb']
    exact Nat.mul_div_cancel_left _ g1
  have ec : c / Nat.gcd c d = c' := by
    conv => lhs; lhs; rw [hc]
    exact Nat.mul_div_cancel_left _ g2
  have ed : d / Nat.gcd c d = d' := by
    conv => lhs; lhs; rw [hd']
    exact Nat.mul_div_cancel_left _ g2
  have p1 : Nat.Coprime a' b' := by
    rw [← ea, ← eb]
    exact Nat.coprime_div_gcd_div_gcd g1
  have p2 : Nat.Coprime c' d' := by
    rw [← ec, ← ed]
    exact Nat.coprime_div_gcd_div_gcd g2
  unfold parts
  dsimp only
  rw [ea, eb, ec, ed]
  generalize Nat.gcd a b = g at *
  generalize Nat.gcd c d = k at *
  subst ha hb' hc hd'
  constructor
  · intro e
    injection e with e1 e2
    injection e2 with e2 _
    subst e1 e2
    rw [Nat.mul_mul_mul_comm, Nat.mul_mul_mul_comm k, Nat.mul_comm g k]
  · intro e
    have e' : (g * k) * (a' * d') = (g * k) * (c' * b') := by
      rw [Nat.mul_mul_mul_comm, e, Nat.mul_mul_mul_comm, Nat.mul_comm k g]
    have e2 : a' * d' = c' * b' := Nat.eq_of_mul_eq_mul_left (Nat.mul_pos g1 g2) e'
    have q1 : a' ∣ c' := Nat.Coprime.dvd_of_dvd_mul_right p1 ⟨d', e2.symm⟩
    have q2 : c' ∣ a' := Nat.Coprime.dvd_of_dvd_mul_right p2 ⟨b', e2⟩
    have e3 : a' = c' := Nat.dvd_antisymm q1 q2
    subst e3
    have hb2 : 0 < b' := Nat.pos_of_mul_pos_left hb
    have hd2 : 0 < d' := Nat.pos_of_mul_pos_left hd
    rcases Nat.eq_zero_or_pos a' with e0 | e0
    · subst e0
      have f1 : b' = 1 := by
        have := p1
        rw [Nat.coprime_zero_left] at this
        exact this
      have f2 : d' = 1 := by
        have := p2
        rw [Nat.coprime_zero_left] at this
        exact this
      rw [f1, f2]
    · have e4 : d' = b' := Nat.eq_of_mul_eq_mul_left e0 e2
      rw [e4]
theorem parts_lt {a b c d : Nat} (hb : 0 < b) (hd : 0 < d) : ((a / Nat.gcd a b) * (d / Nat.gcd c d) < (c / Nat.gcd c d) * (b / Nat.gcd a b)) ↔ a * d < c * b := by
  have g1 : 0 < Nat.gcd a b := Nat.gcd_pos_of_pos_right _ hb
  have g2 : 0 < Nat.gcd c d := Nat.gcd_pos_of_pos_right _ hd
  have k1 : Nat.gcd a b * (a / Nat.gcd a b) = a := Nat.mul_div_cancel' (Nat.gcd_dvd_left a b)
  have k2 : Nat.gcd a b * (b / Nat.gcd a b) = b := Nat.mul_div_cancel' (Nat.gcd_dvd_right a b)
  have k3 : Nat.gcd c d * (c / Nat.gcd c d) = c := Nat.mul_div_cancel' (Nat.gcd_dvd_left c d)
  have k4 : Nat.gcd c d * (d / Nat.gcd c d) = d := Nat.mul_div_cancel' (Nat.gcd_dvd_right c d)
  generalize Nat.gcd a b = g at *
  generalize Nat.gcd c d = k at *
  generalize a / g = a' at *
  generalize b / g = b' at *
  generalize c / k = c' at *
  generalize d / k = d' at *
  subst k1 k2 k3 k4
  have e1 : g * a' * (k * d') = (g * k) * (a' * d') := Nat.mul_mul_mul_comm _ _ _ _
  have e2 : k * c' * (g * b') = (g * k) * (c' * b') := by rw [Nat.mul_mul_mul_comm, Nat.mul_comm k g]
  rw [e1, e2]
  exact (Nat.mul_lt_mul_left (Nat.mul_pos g1 g2)).symm
end Scrap

set_option Elab.async false
set_option maxHeartbeats 1000000
/-! Mathematics of the bests: what is least by an order, and the specification's folds. -/
namespace Scrap
open Sj14
/-- those of l than which none of l is better -/
def mins (lt : Nat → Nat → Bool) (l : List Nat) : List Nat := l.filter fun s => l.all fun t => !lt t s
theorem mem_mins {lt : Nat → Nat → Bool} {l : List Nat} {s : Nat} : s ∈ mins lt l ↔ s ∈ l ∧ ∀ t ∈ l, lt t s = false := by
  unfold mins
  rw [List.mem_filter, List.all_eq_true]
  constructor
  · rintro ⟨h1, h2⟩
    exact ⟨h1, fun t ht => by
      have := h2 t ht
      simpa using this⟩
  · rintro ⟨h1, h2⟩
    exact ⟨h1, fun t ht => by
      rw [h2 t ht]
      rfl⟩
/-- a strict weak order on those that P holds of -/
structure WO (P : Nat → Prop) (lt : Nat → Nat → Bool) : Prop where
  asym : ∀ a b, P a → P b → lt a b = true → lt b a = false
  neg : ∀ a b c, P a → P b → P c → lt a b = false → lt b c = false → lt a c = false
theorem WO.irr {P : Nat → Prop} {lt : Nat → Nat → Bool} (w : WO P lt) {a : Nat} (h : P a) : lt a a = false := by
  cases e : lt a a with
  | false => rfl
  | true =>
    have := w.asym a a h h e
    rw [e] at this
    cases this
theorem wo_key (f : Nat → Nat) : WO (fun _ => True) fun a b => decide (f a < f b) :=
  ⟨fun a b _ _ h => decide_eq_false (by have := of_decide_eq_true h; omega), fun a b c _ _ _ h1 h2 => decide_eq_false (by have := of_decide_eq_false h1; have := of_decide_eq_false h2; omega)⟩
theorem wo_down (f : Nat → Nat) : WO (fun _ => True) fun a b => decide (f b < f a) :=
  ⟨fun a b _ _ h => decide_eq_false (by have := of_decide_eq_true h; omega), fun a b c _ _ _ h1 h2 => decide_eq_false (by have := of_decide_eq_false h1; have := of_decide_eq_false h2; omega)⟩
theorem WO.weak {P Q : Nat → Prop} {lt : Nat → Nat → Bool} (w : WO P lt) (h : ∀ a, Q a → P a) : WO Q lt :=
  ⟨fun a b x y => w.asym a b (h a x) (h b y), fun a b c x y z => w.neg a b c (h a x) (h b y) (h c z)⟩
def lex (lt1 lt2 : Nat → Nat → Bool) (a b : Nat) : Bool := lt1 a b || (!lt1 b a && lt2 a b)
theorem lex_false {lt1 lt2 : Nat → Nat → Bool} {a b : Nat} : lex lt1 lt2 a b = false ↔ lt1 a b = false ∧ (lt1 b a = true ∨ lt2 a b = false) := by
  unfold lex
  cases lt1 a b <;> cases lt1 b a <;> cases lt2 a b <;> simp
theorem WO.trans {P : Nat → Prop} {lt : Nat → Nat → Bool} (w : WO P lt) {a b c : Nat} (ha : P a) (hb : P b) (hc : P c) (h1 : lt a b = true) (h2 : lt b c = true) : lt a c = true := by
  cases e : lt a c with
  | true => rfl
  | false =>
    have := w.neg a c b ha hc hb e (w.asym b c hb hc h2)
    rw [h1] at this
    cases this
theorem wo_lex {P : Nat → Prop} {lt1 lt2 : Nat → Nat → Bool} (w1 : WO P lt1) (w2 : WO P lt2) : WO P (lex lt1 lt2) := by
  constructor
  · intro a b ha hb h
    rw [lex_false]
    unfold lex at h
    cases e : lt1 a b with
    | true => exact ⟨w1.asym a b ha hb e, .inl rfl⟩
    | false =>
      rw [e] at h
      simp only [Bool.false_or, Bool.and_eq_true, Bool.not_eq_true'] at h
      exact ⟨h.1, .inr (w2.asym a b ha hb h.2)⟩
  · intro a b c ha hb hc h1 h2
    rw [lex_false] at h1 h2 ⊢
    refine ⟨w1.neg a b c ha hb hc h1.1 h2.1, ?_⟩
    rcases h1.2 with k | k
    · left
      cases e : lt1 c a with
      | true => rfl
      | false =>
        have := w1.neg b c a hb hc ha h2.1 e
        rw [k] at this
        cases this
    · rcases h2.2 with k2 | k2
      · left
        cases e : lt1 c a with
        | true => rfl
        | false =>
          have := w1.neg c a b hc ha hb e h1.1
          rw [k2] at this
          cases this
      · exact .inr (w2.neg a b c ha hb hc k k2)
theorem mins_lex {P : Nat → Prop} {lt1 lt2 : Nat → Nat → Bool} (w1 : WO P lt1) {l : List Nat} (hl : ∀ x ∈ l, P x) : mins (lex lt1 lt2) l = mins lt2 (mins lt1 l) := by
  have e : mins lt2 (mins lt1 l) = l.filter fun s => (l.all fun t => !lt1 t s) && ((mins lt1 l).all fun t => !lt2 t s) := by
    show (l.filter _).filter _ = _
    rw [List.filter_filter]
    refine List.filter_congr fun s _ => ?_
    rw [Bool.and_comm]
  rw [e]
  show l.filter _ = l.filter _
  refine List.filter_congr fun s hs => ?_
  rw [Bool.eq_iff_iff, Bool.and_eq_true, List.all_eq_true, List.all_eq_true, List.all_eq_true]
  simp only [Bool.not_eq_true']
  constructor
  · intro h
    refine ⟨fun t ht => (lex_false.mp (h t ht)).1, fun t ht => ?_⟩
    obtain ⟨h1, h2⟩ := mem_mins.mp ht
    rcases (lex_false.mp (h t h1)).2 with k | k
    · rw [h2 s hs] at k
      cases k
    · exact k
  · rintro ⟨h1, h2⟩ t ht
    rw [lex_false]
    refine ⟨h1 t ht, ?_⟩
    cases k : lt1 s t with
    | true => exact .inl rfl
    | false =>
      refine .inr (h2 t (mem_mins.mpr ⟨ht, fun u hu => w1.neg u s t (hl u hu) (hl s hs) (hl t ht) (h1 u hu) k⟩))
/-! ### a fold that keeps the first best and how many are as good -/
def keep (lt : Nat → Nat → Bool) (r : Option (Nat × Nat)) (s : Nat) : Option (Nat × Nat) := match r with
  | none => some (s, 1)
  | some x => if lt s x.1 = true then some (s, 1) else if lt x.1 s = false then some (x.1, x.2 + 1) else some x
def first (l : List Nat) : Option (Nat × Nat) := match l with
  | [] => none
  | h :: r => some (h, r.length + 1)
theorem mins_snoc {lt : Nat → Nat → Bool} {l : List Nat} {s : Nat} : mins lt (l ++ [s]) = (mins lt l).filter (fun x => !lt s x) ++ (if (l.all (fun t => !lt t s) && !lt s s) = true then [s] else []) := by
  unfold mins
  rw [List.filter_append, List.filter_filter, List.filter_cons]
  congr 1
  · refine List.filter_congr fun x _ => ?_
    rw [List.all_append, Bool.and_comm]
    simp
  · rw [List.all_append]
    simp
theorem first_best {P : Nat → Prop} {lt : Nat → Nat → Bool} (w : WO P lt) (l : List Nat) (hl : ∀ x ∈ l, P x) : ∀ n, n ≤ l.length → (l.take n).foldl (keep lt) none = first (mins lt (l.take n)) ∧ (n ≠ 0 → mins lt (l.take n) ≠ [])
  | 0, _ => ⟨by simp [mins, first], fun h => absurd rfl h⟩
  | n + 1, hn => by
    obtain ⟨ih, ne⟩ := first_best w l hl n (by omega)
    have hlt : n < l.length := hn
    have e1 : l.take (n + 1) = l.take n ++ [l[n]] := by rw [List.take_add_one, List.getElem?_eq_getElem hlt]; rfl
    rw [e1, List.foldl_append, ih, mins_snoc]
    have hs : P l[n] := hl _ (List.getElem_mem hlt)
    generalize l[n] = s at *
    have hp : ∀ x ∈ l.take n, P x := fun x hx => hl x (List.mem_of_mem_take hx)
    generalize hL : l.take n = L at *
    rw [w.irr hs]
    simp only [List.foldl_cons, List.foldl_nil, Bool.not_false, Bool.and_true]
    cases hM : mins lt L with
    | nil =>
      have n0 : n = 0 := by
        rcases Nat.eq_zero_or_pos n with h | h
        · exact h
        · exact absurd hM (ne (by omega))
      have hLn : L = [] := by rw [← hL, n0]; rfl
      subst hLn
      simp [first, keep]
    | cons h r =>
      have hh : h ∈ mins lt L := by rw [hM]; exact List.mem_cons_self
      obtain ⟨h1, h2⟩ := mem_mins.mp hh
      have ph := hp h h1
      have hmem : ∀ x ∈ h :: r, x ∈ mins lt L := fun x hx => by rw [hM]; exact hx
      have heq : ∀ x ∈ h :: r, P x ∧ lt x h = false ∧ lt h x = false := fun x hx => by
        obtain ⟨k1, k2⟩ := mem_mins.mp (hmem x hx)
        exact ⟨hp x k1, h2 x k1, k2 h h1⟩
      show _ ∧ _
      cases e2 : lt s h with
      | true =>
        have f1 : (h :: r).filter (fun x => !lt s x) = [] := List.filter_eq_nil_iff.mpr fun x hx => by
          obtain ⟨p1, q1, q2⟩ := heq x hx
          cases e : lt s x with
          | true => simp
          | false =>
            have := w.neg s x h hs p1 ph e q1
            rw [e2] at this
            cases this
        have f2 : L.all (fun t => !lt t s) = true := List.all_eq_true.mpr fun t ht => by
          cases e : lt t s with
          | false => rfl
          | true =>
            have := w.trans (hp t ht) hs ph e e2
            rw [h2 t ht] at this
            cases this
        rw [f1, if_pos f2]
        refine ⟨?_, fun _ => by simp⟩
        simp [first, keep, e2]
      | false =>
        have f1 : (h :: r).filter (fun x => !lt s x) = h :: r := List.filter_eq_self.mpr fun x hx => by
          obtain ⟨p1, q1, q2⟩ := heq x hx
          rw [w.neg s h x hs ph p1 e2 q2]
          rfl
        rw [f1]
        refine ⟨?_, fun _ => by simp⟩
        cases e3 : lt h s with
        | true =>
          have f2 : ¬ L.all (fun t => !lt t s) = true := fun q => by
            have := List.all_eq_true.mp q h h1
            rw [e3] at this
            cases this
          rw [if_neg f2, List.append_nil]
          simp [first, keep, e2, e3]
        | false =>
          have f2 : L.all (fun t => !lt t s) = true := List.all_eq_true.mpr fun t ht => by
            rw [w.neg t h s (hp t ht) ph hs (h2 t ht) e3]
            rfl
          rw [if_pos f2]
          simp [first, keep, e2, e3]
theorem best_fold {P : Nat → Prop} {lt : Nat → Nat → Bool} (w : WO P lt) (l : List Nat) (hl : ∀ x ∈ l, P x) : l.foldl (keep lt) none = first (mins lt l) := by
  have h := (first_best w l hl l.length (Nat.le_refl _)).1
  rw [List.take_length] at h
  exact h
theorem mins_ne {P : Nat → Prop} {lt : Nat → Nat → Bool} (w : WO P lt) {l : List Nat} (hl : ∀ x ∈ l, P x) (h : l ≠ []) : mins lt l ≠ [] := by
  have q := (first_best w l hl l.length (Nat.le_refl _)).2
  rw [List.take_length] at q
  exact q (fun e => h (List.length_eq_zero_iff.mp e))
theorem fold_sim {α : Type} {f : Option α → Nat → Option α} {g : Nat × Nat → α} {lt : Nat → Nat → Bool} : ∀ (l : List Nat), (∀ r s, s ∈ l → f (r.map g) s = (keep lt r s).map g) → ∀ r, l.foldl f (r.map g) = (l.foldl (keep lt) r).map g
  | [], _, _ => rfl
  | x :: l, h, r => by
    rw [List.foldl_cons, List.foldl_cons, h r x List.mem_cons_self]
    exact fold_sim l (fun r s hs => h r s (List.mem_cons_of_mem _ hs)) _
/-! ### cheap, near, most -/
def ltPrice (y : Yard) (a b : Nat) : Bool := decide (y.price a < y.price b)
def ltHeavy (y : Yard) (a b : Nat) : Bool := decide (y.heavy b < y.heavy a)
def ltNear (y : Yard) (k : Nat) (a b : Nat) : Bool := nearer (y.off k a) (y.heavy a) (y.off k b) (y.heavy b)
def ltSize (y : Yard) (a b : Nat) : Bool := decide (y.size b < y.size a)
theorem wo_price (y : Yard) : WO (fun _ => True) (ltPrice y) := wo_key y.price
theorem wo_heavy (y : Yard) : WO (fun _ => True) (ltHeavy y) := wo_down y.heavy
theorem wo_size (y : Yard) : WO (fun _ => True) (ltSize y) := wo_down y.size
theorem cross_neg {a b c x y z : Nat} (hy : 0 < y) (h1 : b * x ≤ a * y) (h2 : c * y ≤ b * z) : c * x ≤ a * z := by
  have e1 : (c * x) * y ≤ (a * z) * y := by
    calc (c * x) * y = (c * y) * x := by rw [Nat.mul_right_comm]
      _ ≤ (b * z) * x := Nat.mul_le_mul_right x h2
      _ = (b * x) * z := by rw [Nat.mul_right_comm]
      _ ≤ (a * y) * z := Nat.mul_le_mul_right z h1
      _ = (a * z) * y := by rw [Nat.mul_right_comm]
  exact Nat.le_of_mul_le_mul_right e1 hy
theorem wo_near (y : Yard) (k : Nat) : WO (fun s => 0 < y.heavy s) (ltNear y k) := by
  constructor
  · intro a b _ _ h
    exact decide_eq_false (by have := of_decide_eq_true h; omega)
  · intro a b c ha hb hc h1 h2
    have k1 := Nat.le_of_not_lt (of_decide_eq_false h1)
    have k2 := Nat.le_of_not_lt (of_decide_eq_false h2)
    exact decide_eq_false (Nat.not_lt.mpr (cross_neg hb k1 k2))
theorem melts_pos {y : Yard} (G : Good y) : ∀ s ∈ y.melts, 0 < y.heavy s := fun s hs => by
  obtain ⟨h1, h2, _⟩ := mem_melts hs
  exact heavy_pos G s h1 h2
def cheapL (y : Yard) (l : List Nat) : List Nat := mins (ltHeavy y) (mins (ltPrice y) l)
def nearL (y : Yard) (k : Nat) (l : List Nat) : List Nat := mins (ltPrice y) (mins (ltNear y k) l)
def mostL (y : Yard) (l : List Nat) : List Nat := mins (ltSize y) l
theorem cheap_is (y : Yard) : y.cheap = (first (cheapL y y.melts)).map fun p => ⟨y.price p.1, y.heavy p.1, p.2, p.1⟩ := by
  have w := wo_lex (wo_price y) (wo_heavy y)
  unfold cheapL
  rw [← mins_lex (wo_price y) (fun _ _ => trivial), ← best_fold w y.melts (fun _ _ => trivial)]
  unfold Yard.cheap
  refine fold_sim (g := fun p => (⟨y.price p.1, y.heavy p.1, p.2, p.1⟩ : Best)) y.melts (fun r s _ => ?_) none
  cases r with
  | none => rfl
  | some x =>
    show (if _ then _ else if _ then _ else _) = Option.map _ (if _ then _ else if _ then _ else _)
    have e1 : lex (ltPrice y) (ltHeavy y) s x.1 = true ↔ (y.price s < y.price x.1 ∨ (y.price s = y.price x.1 ∧ y.heavy x.1 < y.heavy s)) := by
      unfold lex ltPrice ltHeavy
      simp
      omega
    by_cases h1 : y.price s < y.price x.1 ∨ (y.price s = y.price x.1 ∧ y.heavy x.1 < y.heavy s)
    · rw [if_pos h1, if_pos (e1.mpr h1)]
      rfl
    · rw [if_neg h1, if_neg (fun q => h1 (e1.mp q))]
      have e2 : lex (ltPrice y) (ltHeavy y) x.1 s = false ↔ (y.price s = y.price x.1 ∧ y.heavy s = y.heavy x.1) := by
        unfold lex ltPrice ltHeavy
        simp
        omega
      by_cases h2 : y.price s = y.price x.1 ∧ y.heavy s = y.heavy x.1
      · rw [if_pos h2, if_pos (e2.mpr h2)]
        rfl
      · rw [if_neg h2, if_neg (fun q => h2 (e2.mp q))]
        rfl
theorem near_is {y : Yard} (G : Good y) (k : Nat) : y.near k = (first (nearL y k y.melts)).map fun p => ⟨y.off k p.1, y.heavy p.1, y.price p.1, p.2, p.1⟩ := by
  have hp := melts_pos G
  have w := wo_lex (wo_near y k) ((wo_price y).weak (Q := fun s => 0 < y.heavy s) fun _ _ => trivial)
  unfold nearL
  rw [← mins_lex (wo_near y k) hp, ← best_fold w y.melts hp]
  unfold Yard.near
  refine fold_sim (g := fun p => (⟨y.off k p.1, y.heavy p.1, y.price p.1, p.2, p.1⟩ : Near)) y.melts (fun r s _ => ?_) none
  cases r with
  | none => rfl
  | some x =>
    show (if (nearer (y.off k s) (y.heavy s) (y.off k x.1) (y.heavy x.1) = true ∨ (nearer (y.off k x.1) (y.heavy x.1) (y.off k s) (y.heavy s) = false ∧ y.price s < y.price x.1)) then some _ else if (nearer (y.off k x.1) (y.heavy x.1) (y.off k s) (y.heavy s) = false ∧ y.price s = y.price x.1) then some _ else some _) = Option.map _ (if _ then _ else if _ then _ else _)
    unfold lex ltPrice ltNear
    cases n1 : nearer (y.off k s) (y.heavy s) (y.off k x.1) (y.heavy x.1) <;> cases n2 : nearer (y.off k x.1) (y.heavy x.1) (y.off k s) (y.heavy s) <;> simp
    · by_cases h1 : y.price s < y.price x.1
      · rw [if_pos h1, if_pos h1]
        rfl
      · rw [if_neg h1, if_neg h1]
        by_cases h2 : y.price s = y.price x.1
        · rw [if_pos h2, if_pos (by omega)]
          rfl
        · rw [if_neg h2, if_neg (by omega)]
          rfl
theorem most_is (y : Yard) : y.most = (first (mostL y y.melts)).map fun p => (y.size p.1, p.1) := by
  unfold mostL
  rw [← best_fold (wo_size y) y.melts (fun _ _ => trivial)]
  unfold Yard.most
  refine fold_sim (g := fun p => (y.size p.1, p.1)) y.melts (fun r s _ => ?_) none
  cases r with
  | none => rfl
  | some x =>
    show (if y.size x.1 < y.size s then _ else _) = Option.map _ (if decide (y.size x.1 < y.size s) = true then _ else if decide (y.size s < y.size x.1) = false then _ else _)
    by_cases h1 : y.size x.1 < y.size s
    · rw [if_pos h1, if_pos (decide_eq_true h1)]
      rfl
    · rw [if_neg h1, if_neg (by simpa using h1)]
      split <;> rfl
end Scrap

set_option Elab.async false
set_option maxHeartbeats 1000000
/-! The list of calls: how it is laid, and what is due. -/
namespace Scrap
open Sj14
/-- the calls laid one behind another -/
def flat (cs : List (List (List Int))) : List Int := cs.flatMap fun c => c.headD []
/-- a call as it is laid: its place, its numbers -/
structure Laid (c : List (List Int)) : Prop where
  ex : ∃ (p : Int) (args : List Int) (n : Nat), c = [p :: args] ∧ PySj14.shape p = some (n, 0) ∧ args.length = n ∧ ∀ z ∈ p :: args, 0 ≤ z ∧ z < 2 ^ 32
theorem shape_rows {p : Int} {n k : Nat} (h : PySj14.shape p = some (n, k)) : k = 0 := by
  unfold PySj14.shape at h
  repeat' split at h
  all_goals first | (injection h with h; injection h with _ h; exact h.symm) | cases h
theorem calls_laid : ∀ (f : Nat) (l : List Int) (cs : List (List (List Int))), PyFlat.calls PySj14.shape f l = some cs →
    l = flat cs ∧ ∀ c ∈ cs, ∃ (p : Int) (args : List Int) (n : Nat), c = [p :: args] ∧ PySj14.shape p = some (n, 0) ∧ args.length = n
  | f, [], cs, h => by
    have e : cs = [] := by
      cases f <;> (injection h with h; exact h.symm)
    subst e
    exact ⟨rfl, fun c hc => by cases hc⟩
  | 0, _ :: _, cs, h => by cases h
  | f + 1, p :: r, cs, h => by
    unfold PyFlat.calls PyFlat.call at h
    dsimp only at h
    cases hs : PySj14.shape p with
    | none =>
      rw [hs] at h
      cases h
    | some q =>
      obtain ⟨n, k⟩ := q
      have hk := shape_rows hs
      subst hk
      rw [hs] at h
      dsimp only at h
      by_cases hn : r.length < n
      · rw [if_pos hn] at h
        cases h
      · rw [if_neg hn] at h
        simp only [PyFlat.rows] at h
        cases hc : PyFlat.calls PySj14.shape f (r.drop n) with
        | none =>
          rw [hc] at h
          cases h
        | some rest =>
          rw [hc] at h
          injection h with h
          subst h
          obtain ⟨e1, e2⟩ := calls_laid f _ rest hc
          refine ⟨?_, fun c hm => ?_⟩
          · show p :: r = (p :: r.take n) ++ flat rest
            rw [← e1, List.cons_append, List.take_append_drop]
          · rcases List.mem_cons.mp hm with rfl | hm
            · exact ⟨p, r.take n, n, rfl, hs, by rw [List.length_take]; omega⟩
            · exact e2 c hm
theorem whole_id (c : List (List Int)) : PySj14.whole c = c := by
  unfold PySj14.whole
  split <;> rfl
theorem map_whole (cs : List (List (List Int))) : cs.map PySj14.whole = cs := by
  have e : PySj14.whole = id := funext whole_id
  rw [e, List.map_id]
/-- what a request is -/
structure Req (ns : List Int) (cs : List (List (List Int))) : Prop where
  lay : ns = flat cs
  laid : ∀ c ∈ cs, Laid c
  few : cs.length ≤ 60
  ne : cs ≠ []
  due : PySj14.answers ns = PyFlat.told (PyFlat.played Sj14Neutral.step Sj14Neutral.start cs)
theorem req_of {ns : List Int} (h : PySj14.answers_asked ns = true) : ∃ cs, Req ns cs := by
  unfold PySj14.answers_asked at h
  cases hc : PyFlat.calls PySj14.shape ns.length ns with
  | none =>
    rw [hc] at h
    cases h
  | some cs =>
    rw [hc] at h
    dsimp only at h
    simp only [Bool.and_eq_true] at h
    obtain ⟨⟨⟨⟨h1, h2⟩, h3⟩, h4⟩, h5⟩ := h
    obtain ⟨e1, e2⟩ := calls_laid _ _ _ hc
    refine ⟨cs, e1, fun c hm => ?_, of_decide_eq_true h2, fun e => ?_, ?_⟩
    · obtain ⟨p, args, n, rfl, hs, hl⟩ := e2 c hm
      refine ⟨p, args, n, rfl, hs, hl, fun z hz => ?_⟩
      rw [map_whole] at h4
      unfold Sj14Neutral.asked at h4
      simp only [Bool.and_eq_true] at h4
      have q := List.all_eq_true.mp h4.1 _ hm
      unfold Sj14Neutral.asked1 at q
      simp only [Bool.and_eq_true] at q
      have q2 := List.all_eq_true.mp q.2.1 z hz
      unfold Sj14Neutral.natural at q2
      simp only [Bool.and_eq_true, decide_eq_true_eq] at q2
      exact q2
    · subst e
      cases h1
    · show (match PySj14.calls ns with | none => [] | some cs => PyFlat.told (PyFlat.played Sj14Neutral.step Sj14Neutral.start cs)) = _
      have e : PySj14.calls ns = some cs := by
        unfold PySj14.calls
        rw [hc]
        show some (cs.map PySj14.whole) = _
        rw [map_whole]
      rw [e]
/-- what is due from a yard on -/
def due (y : Yard) (cs : List (List (List Int))) : List Int := PyFlat.told (PyFlat.played Sj14Neutral.step y cs)
theorem due_cons (y : Yard) (c : List (List Int)) (cs : List (List (List Int))) : due y (c :: cs) = (((Sj14Neutral.step y c).2.length : Int) :: (Sj14Neutral.step y c).2) ++ due (Sj14Neutral.step y c).1 cs := by
  unfold due PyFlat.told
  simp only [PyFlat.played, List.flatMap_cons]
/-! ### each call: its numbers, what is answered, the yard behind it -/
def ansOf (r : Yard × Ans) : List Int := r.2.v :: r.2.l
structure Kind (c : List (List Int)) (q : Call) : Prop where
  eq : ∀ y, Sj14Neutral.step y c = ((Sj14.step y q).1, ansOf (Sj14.step y q))
theorem kind_of {c : List (List Int)} {q : Call} (h : Sj14Neutral.callOf (c.headD []) = some q) : Kind c q := ⟨fun y => by
  unfold Sj14Neutral.step
  rw [h]
  rfl⟩
theorem nat_of {z : Int} (h : 0 ≤ z ∧ z < 2 ^ 32) : ∃ n : Nat, z = (n : Int) ∧ n < 4294967296 := ⟨z.toNat, by omega, by omega⟩
inductive Told : Int → List Int → Call → Prop where
  | begins (a b c d e f : Nat) (ha : a < 4294967296) (hb : b < 4294967296) (hc : c < 4294967296) (hd : d < 4294967296) (he : e < 4294967296) (hf : f < 4294967296) : Told 0 [(a : Int), (b : Int), (c : Int), (d : Int), (e : Int), (f : Int)] (.begins ⟨a, b, c, d, e, f⟩)
  | crate (h c z p : Nat) (hh : h < 4294967296) (hc : c < 4294967296) (hz : z < 4294967296) (hp : p < 4294967296) : Told 1 [(h : Int), (c : Int), (z : Int), (p : Int)] (.crate ⟨h, c, z, p⟩)
  | check (s : Nat) (hs : s < 4294967296) : Told 2 [(s : Int)] (.check s)
  | cheap : Told 3 [] .cheap
  | near (k : Nat) (hk : k < 4294967296) : Told 4 [(k : Int)] (.near k)
  | most : Told 5 [] .most
theorem told_of {c : List (List Int)} (h : Laid c) : ∃ (p : Int) (args : List Int) (q : Call), c = [p :: args] ∧ Told p args q ∧ Kind c q := by
  obtain ⟨p, args, n, rfl, hs, hl, hz⟩ := h.ex
  unfold PySj14.shape at hs
  have ha : ∀ z ∈ args, 0 ≤ z ∧ z < 2 ^ 32 := fun z hm => hz z (List.mem_cons_of_mem _ hm)
  clear hz
  split at hs
  · rename_i e
    subst e
    injection hs with hs
    injection hs with hs _
    subst hs
    match args, hl with
    | [z0, z1, z2, z3, z4, z5], _ =>
      obtain ⟨a, rfl, ha0⟩ := nat_of (ha z0 (by simp))
      obtain ⟨b, rfl, ha1⟩ := nat_of (ha z1 (by simp))
      obtain ⟨c, rfl, ha2⟩ := nat_of (ha z2 (by simp))
      obtain ⟨d, rfl, ha3⟩ := nat_of (ha z3 (by simp))
      obtain ⟨e, rfl, ha4⟩ := nat_of (ha z4 (by simp))
      obtain ⟨f, rfl, ha5⟩ := nat_of (ha z5 (by simp))
      exact ⟨_, _, _, rfl, .begins a b c d e f ha0 ha1 ha2 ha3 ha4 ha5, kind_of rfl⟩
  · split at hs
    · rename_i e
      subst e
      injection hs with hs
      injection hs with hs _
      subst hs
      match args, hl with
      | [z0, z1, z2, z3], _ =>
        obtain ⟨a, rfl, ha0⟩ := nat_of (ha z0 (by simp))
        obtain ⟨b, rfl, ha1⟩ := nat_of (ha z1 (by simp))
        obtain ⟨c, rfl, ha2⟩ := nat_of (ha z2 (by simp))
        obtain ⟨d, rfl, ha3⟩ := nat_of (ha z3 (by simp))
        exact ⟨_, _, _, rfl, .crate a b c d ha0 ha1 ha2 ha3, kind_of rfl⟩
    · split at hs
      · rename_i e
        subst e
        injection hs with hs
        injection hs with hs _
        subst hs
        match args, hl with
        | [z0], _ =>
          obtain ⟨a, rfl, ha0⟩ := nat_of (ha z0 (by simp))
          exact ⟨_, _, _, rfl, .check a ha0, kind_of rfl⟩
      · split at hs
        · rename_i e
          subst e
          injection hs with hs
          injection hs with hs _
          subst hs
          match args, hl with
          | [], _ => exact ⟨_, _, _, rfl, .cheap, kind_of rfl⟩
        · split at hs
          · rename_i e
            subst e
            injection hs with hs
            injection hs with hs _
            subst hs
            match args, hl with
            | [z0], _ =>
              obtain ⟨a, rfl, ha0⟩ := nat_of (ha z0 (by simp))
              exact ⟨_, _, _, rfl, .near a ha0, kind_of rfl⟩
          · split at hs
            · rename_i e
              subst e
              injection hs with hs
              injection hs with hs _
              subst hs
              match args, hl with
              | [], _ => exact ⟨_, _, _, rfl, .most, kind_of rfl⟩
            · cases hs
/-- an answer has seven numbers at most -/
theorem ans_len (y : Yard) (q : Call) : (ansOf (Sj14.step y q)).length ≤ 7 := by
  unfold ansOf
  cases q with
  | begins w =>
    unfold Sj14.step
    dsimp only
    split <;> simp [ok]
  | crate c =>
    unfold Sj14.step
    dsimp only
    repeat' split
    all_goals simp [ok]
  | check s =>
    unfold Sj14.step
    dsimp only
    repeat' split
    all_goals simp [ok, Sj14.ints, parts]
  | cheap =>
    unfold Sj14.step
    dsimp only
    split <;> simp [ok, Sj14.ints]
  | near k =>
    unfold Sj14.step
    dsimp only
    repeat' split
    all_goals simp [ok, Sj14.ints, parts]
  | most =>
    unfold Sj14.step
    dsimp only
    split <;> simp [ok, Sj14.ints]
/-- the yard stays good -/
theorem good_step {y : Yard} (G : Good y) (q : Call) : Good (Sj14.step y q).1 := by
  cases q with
  | begins w =>
    unfold Sj14.step
    dsimp only
    split
    · exact G
    · rename_i h
      refine ⟨Nat.zero_le _, fun c hc => (by cases hc), ?_⟩
      show GoodW w
      constructor <;> omega
  | crate c =>
    unfold Sj14.step
    dsimp only
    split
    · exact G
    · split
      · exact G
      · rename_i h1 h2
        refine ⟨?_, fun d hd => ?_, G.w⟩
        · show (y.crates ++ [c]).length ≤ 8
          rw [List.length_append, List.length_singleton]
          unfold Yard.count CRATES at h2
          omega
        · rcases List.mem_append.mp hd with hd | hd
          · exact G.all d hd
          · rw [List.mem_singleton] at hd
            subst hd
            unfold HEAVY PRICE at h1
            constructor <;> omega
  | check s =>
    unfold Sj14.step
    dsimp only
    split <;> exact G
  | cheap => exact G
  | near k =>
    unfold Sj14.step
    dsimp only
    split <;> exact G
  | most => exact G
theorem yard_same {y : Yard} {q : Call} (h : (∃ s, q = .check s) ∨ q = .cheap ∨ (∃ k, q = .near k) ∨ q = .most) : (Sj14.step y q).1 = y := by
  rcases h with ⟨s, rfl⟩ | rfl | ⟨k, rfl⟩ | rfl
  · unfold Sj14.step
    dsimp only
    split <;> rfl
  · rfl
  · unfold Sj14.step
    dsimp only
    split <;> rfl
  · rfl
end Scrap

set_option Elab.async false
set_option maxRecDepth 100000
set_option maxHeartbeats 2000000
/-! Words of the layer that this program wants: three comparisons in a chain, calls of a known def, comprehensions over lists of objects. -/
namespace Scrap
open PySem PySem.Spec PyProof.Rows L2
/-! ### a op1 b op2 c op3 d -/
def tChain3 (r r' r2 : R2) (ta tb tc td : TE) : TE := fun σ H Q => ta σ H fun x H1 => tb σ H1 fun y H2 => r x y H2 fun z H3 => ∃ k, z = .bl k ∧
  (if k = true then tc σ H3 fun x2 H4 => r' y x2 H4 fun z2 H5 => ∃ k2, z2 = .bl k2 ∧ (if k2 = true then td σ H5 fun x3 H6 => r2 x2 x3 H6 Q else Q (.bl false) H5) else Q (.bl false) H3)
theorem pe_chain3 {X : Cx} {a b c d : Expr} {pos : Pos} {ta tb tc td : TE} {op op' op2 : CmpOp} {r r' r2 : R2} (ho : OpR X (compareOp op) r) (ho' : OpR X (compareOp op') r') (ho2 : OpR X (compareOp op2) r2) (ha : PE X a ta) (hb : PE X b tb) (hc : PE X c tc) (hd : PE X d td)
    (hm : lastMarks [op, op', op2] [b, c, d] = false := by with_unfolding_all rfl) : PE X (.Compare a [op, op', op2] [b, c, d] pos) (tChain3 r r' r2 ta tb tc td) := by
  refine ⟨fun pins s σ H Q I h => ?_⟩
  refine Compare_chain (thn (ha.run pins s σ H _ I h) fun v s1 ⟨x, H1, I1, r1, q1⟩ => chain_link (thn (hb.run pins s1 σ H1 _ I1 q1) fun u s2 ⟨y, H2, I2, ry, q2⟩ =>
    thn (ho pins s2 σ H2 x y v u _ I2 r1 ry q2) fun e s3 ⟨z, H3, I3, r3, k, ek, q3⟩ => ?_)) hm
  subst ek
  cases r3
  refine wpAny_truthy_bool ?_
  cases k with
  | false => exact ite_ff ⟨.bl false, H3, I3, rfl, q3⟩
  | true =>
    refine ite_tt ?_
    refine chain_link (thn (hc.run pins s3 σ H3 _ I3 q3) fun u2 s4 ⟨x2, H4, I4, r4, q4⟩ => thn (ho' pins s4 σ H4 y x2 u u2 _ I4 ry r4 q4) fun e2 s5 ⟨z2, H5, I5, r5, k2, ek2, q5⟩ => ?_)
    subst ek2
    cases r5
    refine wpAny_truthy_bool ?_
    cases k2 with
    | false => exact ite_ff ⟨.bl false, H5, I5, rfl, q5⟩
    | true => exact ite_tt (chain_last (thn (hd.run pins s5 σ H5 _ I5 q5) fun w' s6 ⟨x3, H6, I6, r6, q6⟩ => ho2 pins s6 σ H6 x2 x3 u2 w' Q I6 r4 r6 q6))
/-! ### a def, a class, a method that keeps a promise -/
structure Df (P : Program) (w : World) (K : PySem.W.Frag) (mg : Str → Option Value) (base : Heap) (x : Str) (k : Nat) (ps : List Str) (sp : Sp) : Prop where
  ex : ∃ (f : Addr) (fd : FuncData), mg x = some (.ref f) ∧ FnOk P w K mg base CX0 k f fd ps sp ∧ PySem.W.keepIn K (.ref f) = true ∧ Binds K fd ps []
structure Kl (P : Program) (w : World) (K : PySem.W.Frag) (mg : Str → Option Value) (base : Heap) (x : Str) (C : Addr) (k : Nat) (ps : List Str) (sp : Sp) : Prop where
  ex : ∃ (f : Addr) (fd : FuncData), mg x = some (.ref C) ∧ FnOk P w K mg base CX0 k f fd ps sp ∧ Mk K C f ∧ Binds K fd ps []
structure Me (P : Program) (w : World) (K : PySem.W.Frag) (mg : Str → Option Value) (base : Heap) (C : Addr) (m : Str) (k : Nat) (ps : List Str) (sp : Sp) : Prop where
  ex : ∃ (f : Addr) (fd : FuncData), Meth K C m f ∧ FnOk P w K mg base CX0 k f fd ps sp ∧ Binds K fd ps []
section
variable {X : Cx} {e o : Expr} {es : List Expr} {t : TA} {ta : TE} {x m : Str} {p pos apos : Pos} {k : Nat} {ps : List Str} {sp : Sp} {C : Addr}
theorem pe_df (D : Df X.prog X.w X.K X.mg X.base x k ps sp) (hr : Room k X.A) (hg : Gl X x) (ha : PA X (e :: es) t) (hdb : (x == ("__debug__" : Str)) = false := by decide)
    (he : starEach (e :: es) X.env = (false, eval e X.env) :: starEach es X.env := by rfl) (hpl : (backTo pos (starEach es X.env)).any (·.1) = false := by rfl) : PE X (.Call (.Name x p) (e :: es) [] pos) (tCall sp [] E0 t) := by
  obtain ⟨f, fd, h1, h2, h3, h4⟩ := D.ex
  exact pe_call h2 hr hg h1 h3 h4 .nil pass0 ha hdb he hpl
theorem pe_kl (D : Kl X.prog X.w X.K X.mg X.base x C k ps sp) (hr : Room (k + 1) X.A) (hg : Gl X x) (ha : PA X (e :: es) t) (hdb : (x == ("__debug__" : Str)) = false := by decide)
    (he : starEach (e :: es) X.env = (false, eval e X.env) :: starEach es X.env := by rfl) (hpl : (backTo pos (starEach es X.env)).any (·.1) = false := by rfl) : PE X (.Call (.Name x p) (e :: es) [] pos) (tMake C sp [] E0 t) := by
  obtain ⟨f, fd, h1, h2, h3, h4⟩ := D.ex
  exact pe_make h3 h2 hr hg h1 h4 .nil pass0 ha hdb he hpl
theorem pe_kl0 (D : Kl X.prog X.w X.K X.mg X.base x C k ps sp) (hr : Room (k + 1) X.A) (hg : Gl X x) (hdb : (x == ("__debug__" : Str)) = false := by decide) : PE X (.Call (.Name x p) [] [] pos) (tMake C sp [] E0 tNil) := by
  obtain ⟨f, fd, h1, h2, h3, h4⟩ := D.ex
  exact pe_make0 h3 h2 hr hg h1 h4 .nil pass0 hdb
end
/-! ### heaps -/
theorem same_upd {H : Hp} {p : Addr} {o : HO} (h : H p = none) : Same H (upd H p o) := fun b x e => by
  rw [upd_ne (ne_of_none e h)]
  exact e
/-- all but what stands at a -/
def SameBut (a : Addr) (H H' : Hp) : Prop := ∀ b o, H b = some o → b ≠ a → H' b = some o
theorem SameBut.upd {H : Hp} {a : Addr} {o : HO} : SameBut a H (upd H a o) := fun b u e hb => by rw [upd_ne hb]; exact e
theorem SameBut.trans {H H1 H2 : Hp} {a : Addr} (h : SameBut a H H1) (k : SameBut a H1 H2) : SameBut a H H2 := fun b o e hb => k b o (h b o e hb) hb
theorem Same.but {H H1 : Hp} {a : Addr} (h : Same H H1) : SameBut a H H1 := fun b o e _ => h b o e
theorem SameBut.free {H H1 : Hp} {a b : Addr} (h : SameBut a H H1) (e : H1 b = none) (hb : b ≠ a) : H b = none := by
  cases q : H b with
  | none => rfl
  | some o =>
    rw [h b o q hb] at e
    cases e
/-- a new instance and what its __init__ leaves -/
theorem made {H H1 : Hp} {x dx C : Addr} (nx : H x = none) (nd : H dx = none) (k : SameBut x (upd (upd H dx (.own x)) x (.ins C dx [])) H1) : Same H H1 := fun b o e =>
  k b o (by rw [upd_ne (ne_of_none e nx), upd_ne (ne_of_none e nd)]; exact e) (ne_of_none e nx)
/-! ### two lists of one length, item by item -/
structure Two {α β : Type} (R : α → β → Prop) (as : List α) (bs : List β) : Prop where
  len : as.length = bs.length
  at_ : ∀ (i : Nat) (a : α) (b : β), as[i]? = some a → bs[i]? = some b → R a b
section
variable {α β : Type} {R : α → β → Prop} {as : List α} {bs : List β}
theorem Two.nil : Two R [] [] := ⟨rfl, fun i a b h => by simp at h⟩
theorem Two.imp {S : α → β → Prop} (h : Two R as bs) (k : ∀ a b, R a b → S a b) : Two S as bs := ⟨h.len, fun i a b x y => k a b (h.at_ i a b x y)⟩
theorem Two.snoc {a : α} {b : β} (h : Two R as bs) (r : R a b) : Two R (as ++ [a]) (bs ++ [b]) := by
  refine ⟨by rw [List.length_append, List.length_append, h.len]; rfl, fun i x y hx hy => ?_⟩
  rcases Nat.lt_or_ge i as.length with hi | hi
  · rw [List.getElem?_append_left hi] at hx
    rw [List.getElem?_append_left (by rw [← h.len]; exact hi)] at hy
    exact h.at_ i x y hx hy
  · rw [List.getElem?_append_right hi] at hx
    rw [List.getElem?_append_right (by rw [← h.len]; exact hi)] at hy
    rw [h.len] at hx
    cases e : i - bs.length with
    | zero =>
      rw [e] at hx hy
      have e1 : a = x := Option.some.inj hx
      have e2 : b = y := Option.some.inj hy
      subst e1 e2
      exact r
    | succ n =>
      rw [e] at hx
      simp at hx
theorem Two.get (h : Two R as bs) {i : Nat} {a : α} (e : as[i]? = some a) : ∃ b, bs[i]? = some b ∧ R a b := by
  obtain ⟨hi, _⟩ := List.getElem?_eq_some_iff.mp e
  have hi2 : i < bs.length := by rw [← h.len]; exact hi
  exact ⟨bs[i], List.getElem?_eq_getElem hi2, h.at_ i a _ e (List.getElem?_eq_getElem hi2)⟩
theorem Two.getR (h : Two R as bs) {i : Nat} {b : β} (e : bs[i]? = some b) : ∃ a, as[i]? = some a ∧ R a b := by
  obtain ⟨hi, _⟩ := List.getElem?_eq_some_iff.mp e
  have hi2 : i < as.length := by rw [h.len]; exact hi
  exact ⟨as[i], List.getElem?_eq_getElem hi2, h.at_ i _ b (List.getElem?_eq_getElem hi2) e⟩
end
/-- what is kept where all that was tracked stays -/
def Mono {β : Type} (R : Hp → Addr → β → Prop) : Prop := ∀ H H' a b, Same H H' → R H a b → R H' a b
/-- a list of objects -/
def RefsAt {β : Type} (R : Hp → Addr → β → Prop) (H : Hp) (l : Addr) (bs : List β) : Prop := ∃ as : List Addr, H l = some (.lst (as.map V.ref)) ∧ Two (R H) as bs
theorem RefsAt.same {β : Type} {R : Hp → Addr → β → Prop} {H H' : Hp} {l : Addr} {bs : List β} (h : RefsAt R H l bs) (m : Mono R) (s : Same H H') : RefsAt R H' l bs := by
  obtain ⟨as, h1, h2⟩ := h
  exact ⟨as, s _ _ h1, h2.imp fun a b r => m H H' a b s r⟩
/-! ### comprehensions over a list of objects -/
/-- the list at D has grown to what I says; else all is as it was -/
def Acc (H0 : Hp) (D : Addr) (I : Nat → List V → Prop) (n : Nat) (H : Hp) : Prop := ∃ acc, Same H0 H ∧ H D = some (.lst acc) ∧ I n acc
theorem Acc.add {H0 H4 : Hp} {D : Addr} {I : Nat → List V → Prop} {n : Nat} {acc : List V} {y : V} (hD : H0 D = none) (s : Same H0 H4) (h : H4 D = some (.lst acc)) (z : acc.length < sizeLine) (i : I n (acc ++ [y])) :
    ∃ acc, H4 D = some (.lst acc) ∧ acc.length < sizeLine ∧ Acc H0 D I n (upd H4 D (.lst (acc ++ [y]))) :=
  ⟨acc, h, z, _, fun b o e => by rw [upd_ne (ne_of_none e hD)]; exact s b o e, upd_same, i⟩
theorem lc_refs {K : PySem.W.Frag} {β : Type} {R : Hp → Addr → β → Prop} {l : Addr} {bs : List β} {σ : L2.St} {H : Hp} {Q : VK} {i j : Nat} {tt : TT} {te : TE} (I : Nat → List V → Prop) (hm : Mono R)
    (hσ : σ[i]? = some (some (.ref l))) (hL : RefsAt R H l bs) (h0 : I 0 [])
    (hs : ∀ (n : Nat) (a : Addr) (b : β) (H' : Hp) (D : Addr) (acc : List V), bs[n]? = some b → R H' a b → Same H H' → H D = none → H' D = some (.lst acc) → I n acc →
      tt ((wipe σ [j]).set j (some (.ref a))) H' fun c H3 => if c = true then te ((wipe σ [j]).set j (some (.ref a))) H3 fun y H4 => ∃ acc, H4 D = some (.lst acc) ∧ acc.length < sizeLine ∧ Acc H D I (n + 1) (upd H4 D (.lst (acc ++ [y]))) else Acc H D I (n + 1) H3)
    (hd : ∀ (D : Addr) (H' : Hp) (acc : List V), Same H H' → H D = none → H' D = some (.lst acc) → I bs.length acc → Q (.ref D) H') : tLc (iList K (tVar i)) (gName j) tt te [j] σ H Q := by
  obtain ⟨as, h1, h2⟩ := hL
  refine ⟨.ref l, hσ, l, rfl, ⟨_, SqL.of h1⟩, fun D hD => lc_list (K := K) (a := l) (xs := as.map V.ref) (Acc H D I) ⟨[], same_upd hD, upd_same, h0⟩ (fun n H' _ ⟨_, s, _, _⟩ => SqL.of (s _ _ h1)) ?_ ?_⟩
  · rintro n x H' hx ⟨acc, s, hacc, hi⟩
    obtain ⟨a, ha, rfl⟩ : ∃ a, as[n]? = some a ∧ x = V.ref a := by
      rw [List.getElem?_map] at hx
      cases e : as[n]? with
      | none =>
        rw [e] at hx
        cases hx
      | some a =>
        rw [e] at hx
        exact ⟨a, rfl, (Option.some.inj hx).symm⟩
    obtain ⟨b, hb, hr⟩ := h2.get ha
    show wipe ((wipe σ [j]).set j (some (.ref a))) [j] = wipe σ [j] ∧ _
    refine ⟨?_, hs n a b H' D acc hb (hm _ _ _ _ s hr) s hD hacc hi⟩
    show (((σ.set j none).set j (some (.ref a))).set j none) = σ.set j none
    rw [List.set_set, List.set_set]
  · rintro H' ⟨acc, s, hacc, hi⟩
    rw [List.length_map, h2.len] at hi
    exact hd D H' acc s hD hacc hi
/-- the places of the slots within -/
theorem slot_own {σ : L2.St} {j : Nat} {v : V} (h : j < σ.length) : ((wipe σ [j]).set j (some v))[j]? = some (some v) := by
  rw [List.getElem?_set_self]
  rw [wipe_length]
  exact h
theorem slot_out {σ : L2.St} {i j : Nat} {v : V} (h : i ≠ j) : ((wipe σ [j]).set j (some v))[i]? = σ[i]? := by
  rw [List.getElem?_set_ne h.symm]
  show (σ.set j none)[i]? = _
  rw [List.getElem?_set_ne h.symm]
/-- [e for x in xs], e a whole number that is reckoned from x without a change -/
theorem lc_ints {K : PySem.W.Frag} {β : Type} {R : Hp → Addr → β → Prop} {l : Addr} {bs : List β} {σ : L2.St} {H : Hp} {Q : VK} {i j : Nat} {te : TE} (g : β → Int) (hm : Mono R)
    (hσ : σ[i]? = some (some (.ref l))) (hL : RefsAt R H l bs) (hz : bs.length < sizeLine)
    (he : ∀ (a : Addr) (b : β) (H' : Hp) (Q' : VK), b ∈ bs → R H' a b → Q' (.int (g b)) H' → te ((wipe σ [j]).set j (some (.ref a))) H' Q')
    (hd : ∀ (D : Addr) (H' : Hp), Same H H' → H' D = some (.lst ((bs.map g).map V.int)) → Q (.ref D) H') : tLc (iList K (tVar i)) (gName j) tYes te [j] σ H Q := by
  refine lc_refs (R := R) (bs := bs) (fun n acc => acc = ((bs.take n).map g).map V.int) hm hσ hL rfl ?_ ?_
  · rintro n a b H' D acc hb hr s hD hacc rfl
    unfold tYes
    dsimp only
    rw [if_pos rfl]
    refine he a b H' _ (List.mem_of_getElem? hb) hr ?_
    refine Acc.add hD s hacc ?_ ?_
    · rw [List.length_map, List.length_map, List.length_take]
      omega
    · rw [List.take_add_one, hb, List.map_append, List.map_append]
      rfl
  · rintro D H' acc s hD hacc rfl
    rw [List.take_length] at hacc
    exact hd D H' s hacc
/-- [x for x in xs if t], t reckoned from x without a change of what was -/
theorem lc_if {K : PySem.W.Frag} {β : Type} {R : Hp → Addr → β → Prop} {l : Addr} {bs : List β} {σ : L2.St} {H : Hp} {Q : VK} {i j : Nat} {tt : TT} (p : β → Bool) (hm : Mono R)
    (hσ : σ[i]? = some (some (.ref l))) (hj : j < σ.length) (hL : RefsAt R H l bs) (hz : bs.length < sizeLine)
    (ht : ∀ (a : Addr) (b : β) (H' : Hp) (Q' : Bool → Hp → Prop), b ∈ bs → R H' a b → Same H H' → (∀ H3, Same H' H3 → Q' (p b) H3) → tt ((wipe σ [j]).set j (some (.ref a))) H' Q')
    (hd : ∀ (D : Addr) (H' : Hp), Same H H' → H D = none → RefsAt R H' D (bs.filter p) → Q (.ref D) H') : tLc (iList K (tVar i)) (gName j) tt (tVar j) [j] σ H Q := by
  obtain ⟨as, hl, h2⟩ := hL
  refine lc_refs (R := fun H' a b => R H' a b ∧ R H a b) (bs := bs) (fun n acc => ∃ as' : List Addr, acc = as'.map V.ref ∧ Two (R H) as' ((bs.take n).filter p)) (fun H1 H2 a b s r => ⟨hm _ _ _ _ s r.1, r.2⟩) hσ ⟨as, hl, h2.imp fun a b r => ⟨r, r⟩⟩ ⟨[], rfl, Two.nil⟩ ?_ ?_
  · rintro n a b H' D acc hb ⟨hr, hrH⟩ s hD hacc ⟨as', rfl, h2'⟩
    have tk : bs.take (n + 1) = bs.take n ++ [b] := by
      rw [List.take_add_one, hb]
      rfl
    refine ht a b H' _ (List.mem_of_getElem? hb) hr s fun H3 s3 => ?_
    cases hp : p b with
    | true =>
      rw [if_pos rfl]
      refine ⟨.ref a, slot_own hj, ?_⟩
      refine Acc.add hD (s.trans s3) (s3 _ _ hacc) ?_ ?_
      · rw [List.length_map, h2'.len]
        have k1 := List.length_filter_le p (bs.take n)
        rw [List.length_take] at k1
        omega
      · refine ⟨as' ++ [a], by rw [List.map_append]; rfl, ?_⟩
        rw [tk, List.filter_append, List.filter_cons, if_pos hp]
        exact h2'.snoc hrH
    | false =>
      rw [if_neg Bool.false_ne_true]
      refine ⟨as'.map V.ref, s.trans s3, s3 _ _ hacc, as', rfl, ?_⟩
      rw [tk, List.filter_append, List.filter_cons, if_neg (by rw [hp]; exact Bool.false_ne_true), List.filter_nil, List.append_nil]
      exact h2'
  · rintro D H' acc s hD hacc ⟨as', rfl, h2'⟩
    rw [List.take_length] at h2'
    exact hd D H' s hD ⟨as', hacc, h2'.imp fun a b r => hm _ _ _ _ s r⟩
end Scrap

set_option Elab.async false
set_option maxRecDepth 100000
set_option maxHeartbeats 4000000
/-! The text by places, how its objects lie, the smaller defs. -/
namespace Scrap
open PySem PySem.Spec PyProof.Rows L2
/-! ### the text -/
def top (i : Nat) : Stmt := PySem.Challenge.pw_scrapcrates_s01_answers.main.body.getD i (.Pass ⟨0, 0, 0, 0⟩)
abbrev sWanted : Stmt := inClass (top 5) 0
abbrev sCrate : Stmt := inClass (top 6) 0
abbrev sMelt : Stmt := inClass (top 7) 0
abbrev sLimits : Stmt := top 8
abbrev sWantedOk : Stmt := top 9
abbrev sCrateOk : Stmt := top 10
abbrev sIsMelt : Stmt := top 11
abbrev sMeltOf : Stmt := top 12
abbrev sWithin : Stmt := top 13
abbrev sWrong : Stmt := top 14
abbrev sLowest : Stmt := top 15
abbrev sMelts : Stmt := top 17
abbrev sPrice : Stmt := top 18
abbrev sCheapest : Stmt := top 19
abbrev sDist : Stmt := top 20
abbrev sLess : Stmt := top 21
abbrev sNearest : Stmt := top 22
abbrev sMost : Stmt := top 23
abbrev sYard : Stmt := inClass (top 35) 0
abbrev sBegins : Stmt := inClass (top 35) 1
abbrev sAdd : Stmt := inClass (top 35) 2
abbrev sCheck : Stmt := inClass (top 35) 3
abbrev sCheap : Stmt := inClass (top 35) 4
abbrev sNear : Stmt := inClass (top 35) 5
abbrev sMostM : Stmt := inClass (top 35) 6
abbrev sMakeup : Stmt := top 36
abbrev sTo : Stmt := top 37
abbrev sAns : Stmt := top 38
/-! ### what the top has written -/
/-- a name of the top that holds a whole number -/
def Gi (mg : Str → Option Value) (x : Str) (i : Int) : Prop := ∃ t, mg x = some (.int i t)
theorem pe_gi {X : Cx} {x : Str} {i : Int} {pos : Pos} (h : Gi X.mg x i) (hg : Gl X x) (hd : (x == ("__debug__" : Str)) = false := by decide) : PE X (.Name x pos) (tC (.int i)) := by
  obtain ⟨t, h⟩ := h
  exact pe_glob hg h ⟨t, rfl⟩ hd
structure Txt (K : PySem.W.Frag) (mg : Str → Option Value) (CW CC CM CY : Addr) : Prop where
  cW : Cls K CW
  cC : Cls K CC
  cM : Cls K CM
  cY : Cls K CY
  wH : NoAttr K CW "heavy"
  wC : NoAttr K CW "copper"
  wZ : NoAttr K CW "zinc"
  kH : NoAttr K CC "heavy"
  kC : NoAttr K CC "copper"
  kZ : NoAttr K CC "zinc"
  kP : NoAttr K CC "price"
  mN : NoAttr K CM "number"
  mK : NoAttr K CM "crate_count"
  mH : NoAttr K CM "heavy"
  mP : NoAttr K CM "price"
  mC : NoAttr K CM "weighted_copper"
  mZ : NoAttr K CM "weighted_zinc"
  yW : NoAttr K CY "wanted"
  yC : NoAttr K CY "crates"
  len : mg "len" = none
  sum : mg "sum" = none
  min : mg "min" = none
  max : mg "max" = none
  abs : mg "abs" = none
  enu : mg "enumerate" = none
  gHC : Gi mg "HEAVIEST_CRATE" 200
  gHW : Gi mg "HEAVIEST_WANTED" 1000
  gWh : Gi mg "WHOLE" 1000
  gHP : Gi mg "HIGHEST_PRICE" 1000
  gB : Gi mg "BEGINS" 0
  gC : Gi mg "CRATE" 1
  gK : Gi mg "CHECK" 2
  gP : Gi mg "CHEAP" 3
  gN : Gi mg "NEAR" 4
  gT : Gi mg "NOT_AS_TOLD" (-1)
  gR : Gi mg "NO_ROOM" (-5)
  gW : Gi mg "NOT_AS_WANTED" (-6)
  gM : Gi mg "MOST_CRATES" 8
/-! ### the objects -/
theorem lk_here {k : Str} {v : V} {r : List (Str × V)} : List.lookup k ((k, v) :: r) = some v := by
  have e : (k == k) = true := beq_self_eq_true k
  simp only [List.lookup, e]
theorem lk_past {k g : Str} {v : V} {r : List (Str × V)} (h : (k == g) = false) : List.lookup k ((g, v) :: r) = List.lookup k r := by
  simp only [List.lookup, h]
theorem put_nil {f : Str} {v : V} : putF f v [] = [(f, v)] := rfl
theorem put_here {f : Str} {v x : V} {r : List (Str × V)} : putF f v ((f, x) :: r) = (f, v) :: r := if_pos rfl
theorem put_past {f g : Str} {v x : V} {r : List (Str × V)} (h : ¬ g = f) : putF f v ((g, x) :: r) = (g, x) :: putF f v r := if_neg h
/-- what is wanted -/
def wF (t1 t2 t3 : Addr) : List (Str × V) := [("heavy", .ref t1), ("copper", .ref t2), ("zinc", .ref t3)]
def WantedAt (C : Addr) (H : Hp) (a : Addr) (w : Sj14.Wanted) : Prop := ∃ dx t1 t2 t3, H a = some (.ins C dx (wF t1 t2 t3)) ∧
  H t1 = some (.tup [.int w.light, .int w.heavy]) ∧ H t2 = some (.tup [.int w.copperLow, .int w.copperHigh]) ∧ H t3 = some (.tup [.int w.zincLow, .int w.zincHigh])
theorem WantedAt.same {C : Addr} {H H' : Hp} {a : Addr} {w : Sj14.Wanted} (h : WantedAt C H a w) (s : Same H H') : WantedAt C H' a w := by
  obtain ⟨dx, t1, t2, t3, h0, h1, h2, h3⟩ := h
  exact ⟨dx, t1, t2, t3, s _ _ h0, s _ _ h1, s _ _ h2, s _ _ h3⟩
/-- a crate -/
def cF (c : Sj14.Crate) : List (Str × V) := [("heavy", .int c.heavy), ("copper", .int c.copper), ("zinc", .int c.zinc), ("price", .int c.price)]
def CrateAt (C : Addr) (H : Hp) (a : Addr) (c : Sj14.Crate) : Prop := ∃ dx, H a = some (.ins C dx (cF c))
theorem crate_mono (C : Addr) : Mono (CrateAt C) := fun _ _ _ _ s ⟨dx, h⟩ => ⟨dx, s _ _ h⟩
/-- a melt -/
structure Mel where
  number : Nat
  count : Nat
  heavy : Nat
  price : Nat
  copper : Nat
  zinc : Nat
def mF (m : Mel) : List (Str × V) := [("number", .int m.number), ("crate_count", .int m.count), ("heavy", .int m.heavy), ("price", .int m.price), ("weighted_copper", .int m.copper), ("weighted_zinc", .int m.zinc)]
def MeltAt (C : Addr) (H : Hp) (a : Addr) (m : Mel) : Prop := ∃ dx, H a = some (.ins C dx (mF m))
theorem melt_mono (C : Addr) : Mono (MeltAt C) := fun _ _ _ _ s ⟨dx, h⟩ => ⟨dx, s _ _ h⟩
def melOf (y : Sj14.Yard) (s : Nat) : Mel := ⟨s, y.size s, y.heavy s, y.price s, y.copper s, y.zinc s⟩
section
variable (t1 t2 t3 : Addr) (c : Sj14.Crate) (m : Mel)
theorem wF_h : (wF t1 t2 t3).lookup ("heavy" : Str) = some (.ref t1) := lk_here
theorem wF_c : (wF t1 t2 t3).lookup ("copper" : Str) = some (.ref t2) := (lk_past (by decide +kernel)).trans (lk_here)
theorem wF_z : (wF t1 t2 t3).lookup ("zinc" : Str) = some (.ref t3) := (lk_past (by decide +kernel)).trans ((lk_past (by decide +kernel)).trans (lk_here))
theorem cF_h : (cF c).lookup ("heavy" : Str) = some (.int c.heavy) := lk_here
theorem cF_c : (cF c).lookup ("copper" : Str) = some (.int c.copper) := (lk_past (by decide +kernel)).trans (lk_here)
theorem cF_z : (cF c).lookup ("zinc" : Str) = some (.int c.zinc) := (lk_past (by decide +kernel)).trans ((lk_past (by decide +kernel)).trans (lk_here))
theorem cF_p : (cF c).lookup ("price" : Str) = some (.int c.price) := (lk_past (by decide +kernel)).trans ((lk_past (by decide +kernel)).trans ((lk_past (by decide +kernel)).trans (lk_here)))
theorem mF_n : (mF m).lookup ("number" : Str) = some (.int m.number) := lk_here
theorem mF_k : (mF m).lookup ("crate_count" : Str) = some (.int m.count) := (lk_past (by decide +kernel)).trans (lk_here)
theorem mF_h : (mF m).lookup ("heavy" : Str) = some (.int m.heavy) := (lk_past (by decide +kernel)).trans ((lk_past (by decide +kernel)).trans (lk_here))
theorem mF_p : (mF m).lookup ("price" : Str) = some (.int m.price) := (lk_past (by decide +kernel)).trans ((lk_past (by decide +kernel)).trans ((lk_past (by decide +kernel)).trans (lk_here)))
theorem mF_c : (mF m).lookup ("weighted_copper" : Str) = some (.int m.copper) := (lk_past (by decide +kernel)).trans ((lk_past (by decide +kernel)).trans ((lk_past (by decide +kernel)).trans ((lk_past (by decide +kernel)).trans (lk_here))))
theorem mF_z : (mF m).lookup ("weighted_zinc" : Str) = some (.int m.zinc) := (lk_past (by decide +kernel)).trans ((lk_past (by decide +kernel)).trans ((lk_past (by decide +kernel)).trans ((lk_past (by decide +kernel)).trans ((lk_past (by decide +kernel)).trans (lk_here)))))
end
theorem SqL.but {K : PySem.W.Frag} {H H' : Hp} {p C dx l : Addr} {fs : List (Str × V)} {xs : List V} (h : SqL K H l xs) (s : SameBut p H H') (hp : H p = some (.ins C dx fs)) : SqL K H' l xs := by
  rcases h with (h | ⟨o, h⟩) | h
  · exact .inl (.inl (s _ _ h (ne_of h hp (by intro z; cases z))))
  · exact .inl (.inr ⟨o, s _ _ h (ne_of h hp (by intro z; cases z))⟩)
  · exact .inr h
/-! ### promises -/
def sixOf (w : Sj14.Wanted) : List Int := [(w.light : Int), (w.heavy : Int), (w.copperLow : Int), (w.copperHigh : Int), (w.zincLow : Int), (w.zincHigh : Int)]
def spWanted (K : PySem.W.Frag) (C : Addr) : Sp := fun vs H Q _ => ∃ (p dx l : Addr) (w : Sj14.Wanted), vs = [.ref p, .ref l] ∧ H p = some (.ins C dx []) ∧ SqL K H l ((sixOf w).map V.int) ∧
  ∀ H' : Hp, SameBut p H H' → WantedAt C H' p w → Q .non H'
section
variable {P : Program} {w : World} {K : PySem.W.Frag} {mg : Str → Option Value} {base : Heap} {CW CC CM CY : Addr}
theorem scWanted : FnScope ["self", "numbers"] ["self", "numbers"] (defScope sWanted) := ⟨rfl, rfl, rfl, by decide +kernel, rfl, by decide +kernel, by decide +kernel⟩
theorem ok_wanted {f : Addr} {fd : FuncData} (F : Fun K "__init__" "Wanted.__init__" sWanted f fd) (T : Txt K mg CW CC CM CY) : FnOk P w K mg base CX0 1 f fd ["self", "numbers"] (spWanted K CW) := by
  refine F.ok scWanted (fun vs H Q E h => ?_) (fun cdv A outer s H vs Q E hr h => ?_)
  · obtain ⟨p, dx, l, w, rfl, _⟩ := h
    rfl
  · obtain ⟨p, dx, l, w, rfl, hp, hl, k⟩ := h
    refine ⟨_, pss_cons (ps_fld (pv 0) (pe_tup (pa_cons (pe_ix ix_list (pv 1) pe_int (fun _ _ => rfl)) (pa_cons (pe_ix ix_list (pv 1) pe_int (fun _ _ => rfl)) pa_nil))) rfl)
      (pss_cons (ps_fld (pv 0) (pe_tup (pa_cons (pe_ix ix_list (pv 1) pe_int (fun _ _ => rfl)) (pa_cons (pe_ix ix_list (pv 1) pe_int (fun _ _ => rfl)) pa_nil))) rfl)
      (pss_one (ps_fld (pv 0) (pe_tup (pa_cons (pe_ix ix_list (pv 1) pe_int (fun _ _ => rfl)) (pa_cons (pe_ix ix_list (pv 1) pe_int (fun _ _ => rfl)) pa_nil))) rfl))), ?_⟩
    refine ⟨_, rfl, l, _, _, _, rfl, rfl, hl, atI_nat (j := 0) rfl, _, rfl, l, _, _, _, rfl, rfl, hl, atI_nat (j := 1) rfl, (by show 2 ≤ sizeLine; decide), fun t1 n1 => ?_⟩
    have p1 : p ≠ t1 := ne_of_none hp n1
    refine ⟨_, rfl, p, CW, dx, _, rfl, (upd_ne p1).trans hp, T.cW, T.wH, (by show 0 < 1000; decide), ?_⟩
    generalize e1 : upd (upd H t1 _) p _ = H1
    have b1 : SameBut p H H1 := by subst e1; exact (Same.but (same_upd n1)).trans SameBut.upd
    have hp1 : H1 p = some (.ins CW dx [("heavy", .ref t1)]) := by subst e1; exact upd_same
    have ht1 : H1 t1 = some (.tup [.int w.light, .int w.heavy]) := by subst e1; exact (upd_ne p1.symm).trans upd_same
    have hl1 : SqL K H1 l ((sixOf w).map V.int) := SqL.but hl b1 hp
    refine ⟨_, rfl, l, _, _, _, rfl, rfl, hl1, atI_nat (j := 2) rfl, _, rfl, l, _, _, _, rfl, rfl, hl1, atI_nat (j := 3) rfl, (by show 2 ≤ sizeLine; decide), fun t2 n2 => ?_⟩
    have p2 : p ≠ t2 := ne_of_none hp1 n2
    refine ⟨_, rfl, p, CW, dx, _, rfl, (upd_ne p2).trans hp1, T.cW, T.wC, (by show 1 < 1000; decide), ?_⟩
    generalize e2 : upd (upd H1 t2 _) p _ = H2
    have b2 : SameBut p H1 H2 := by subst e2; exact (Same.but (same_upd n2)).trans SameBut.upd
    have hp2 : H2 p = some (.ins CW dx [("heavy", .ref t1), ("copper", .ref t2)]) := by subst e2; exact upd_same.trans (congrArg (fun q => some (HO.ins CW dx q)) (put_past (by decide +kernel)))
    have ht2 : H2 t2 = some (.tup [.int w.copperLow, .int w.copperHigh]) := by subst e2; exact (upd_ne p2.symm).trans upd_same
    have hl2 : SqL K H2 l ((sixOf w).map V.int) := SqL.but hl1 b2 hp1
    refine ⟨_, rfl, l, _, _, _, rfl, rfl, hl2, atI_nat (j := 4) rfl, _, rfl, l, _, _, _, rfl, rfl, hl2, atI_nat (j := 5) rfl, (by show 2 ≤ sizeLine; decide), fun t3 n3 => ?_⟩
    have p3 : p ≠ t3 := ne_of_none hp2 n3
    refine ⟨_, rfl, p, CW, dx, _, rfl, (upd_ne p3).trans hp2, T.cW, T.wZ, (by show 2 < 1000; decide), ?_⟩
    have b3 : SameBut p H2 (upd (upd H2 t3 (.tup [.int w.zincLow, .int w.zincHigh])) p (.ins CW dx (putF "zinc" (.ref t3) [("heavy", .ref t1), ("copper", .ref t2)]))) := (Same.but (same_upd n3)).trans SameBut.upd
    refine k _ ((b1.trans b2).trans b3) ⟨dx, t1, t2, t3, ?_, b3 _ _ (b2 _ _ ht1 p1.symm) p1.symm, b3 _ _ ht2 p2.symm, (upd_ne p3.symm).trans upd_same⟩
    exact upd_same.trans (congrArg (fun q => some (HO.ins CW dx q)) ((put_past (by decide +kernel)).trans (congrArg _ (put_past (by decide +kernel)))))
end
end Scrap

set_option Elab.async false
set_option maxRecDepth 100000
set_option maxHeartbeats 4000000
/-! The defs about limits, a crate, what is wrong, lowest terms. -/
namespace Scrap
open PySem PySem.Spec PyProof.Rows L2
def fourOf (c : Sj14.Crate) : List Int := [(c.heavy : Int), (c.copper : Int), (c.zinc : Int), (c.price : Int)]
def spCrate (K : PySem.W.Frag) (C : Addr) : Sp := fun vs H Q _ => ∃ (p dx l : Addr) (c : Sj14.Crate), vs = [.ref p, .ref l] ∧ H p = some (.ins C dx []) ∧ SqL K H l ((fourOf c).map V.int) ∧
  ∀ H' : Hp, SameBut p H H' → CrateAt C H' p c → Q .non H'
def inRow (lo a b hi : Int) : Bool := decide (lo ≤ a) && (decide (a ≤ b) && decide (b ≤ hi))
def spLimits (K : PySem.W.Frag) : Sp := fun vs H Q _ => ∃ (t : Addr) (a b lo hi : Int), vs = [.ref t, .int lo, .int hi] ∧ SqT K H t [.int a, .int b] ∧ Q (.bl (inRow lo a b hi)) H
def wOk (w : Sj14.Wanted) : Bool := inRow 1 w.light w.heavy 1000 && (inRow 0 w.copperLow w.copperHigh 1000 && inRow 0 w.zincLow w.zincHigh 1000)
def spWantedOk (C : Addr) : Sp := fun vs H Q _ => ∃ (a : Addr) (w : Sj14.Wanted), vs = [.ref a] ∧ WantedAt C H a w ∧ Q (.bl (wOk w)) H
def cOk (c : Sj14.Crate) : Bool := (decide ((1 : Int) ≤ (c.heavy : Int)) && decide ((c.heavy : Int) ≤ 200)) && (decide ((c.copper : Int) + (c.zinc : Int) ≤ 1000) && decide ((c.price : Int) ≤ 1000))
def spCrateOk (C : Addr) : Sp := fun vs H Q _ => ∃ (a : Addr) (c : Sj14.Crate), vs = [.ref a] ∧ CrateAt C H a c ∧ Q (.bl (cOk c)) H
def spIsMelt (K : PySem.W.Frag) : Sp := fun vs H Q _ => ∃ (l : Addr) (xs : List V) (s : Nat), vs = [.ref l, .int (s : Int)] ∧ SqL K H l xs ∧ Q (.bl (decide (1 ≤ s) && decide (s < 2 ^ xs.length))) H
def Small (i : Int) : Prop := -(2 ^ 64) < i ∧ i < 2 ^ 64
def spWithin (K : PySem.W.Frag) : Sp := fun vs H Q _ => ∃ (t : Addr) (x w lo hi : Int), vs = [.int x, .int w, .ref t] ∧ SqT K H t [.int lo, .int hi] ∧ Small lo ∧ Small hi ∧ Q (.bl (inLim x w lo hi)) H
def spWrong (CM CW : Addr) : Sp := fun vs H Q _ => ∃ (a b : Addr) (m : Mel) (w : Sj14.Wanted), vs = [.ref a, .ref b] ∧ MeltAt CM H a m ∧ WantedAt CW H b w ∧ GoodW w ∧ Q (.int (wrongI m.heavy m.copper m.zinc w)) H
def spLowest : Sp := fun vs H Q _ => ∃ (a b : Nat), vs = [.int (a : Int), .int (b : Int)] ∧ 0 < b ∧ b < 1073741824 ∧
  ∀ (H' : Hp) (p : Addr), Same H H' → H p = none → H' p = some (.lst ((Sj14.ints (Sj14.parts a b)).map V.int)) → Q (.ref p) H'
theorem wOk_iff (w : Sj14.Wanted) : wOk w = true ↔ GoodW w := by
  unfold wOk inRow
  simp only [Bool.and_eq_true, decide_eq_true_eq]
  constructor
  · rintro ⟨⟨a, b, c⟩, ⟨_, d, e⟩, ⟨_, f, g⟩⟩
    constructor <;> omega
  · rintro ⟨a, b, c, d, e, f, g⟩
    omega
theorem cOk_iff (c : Sj14.Crate) : cOk c = true ↔ GoodC c := by
  unfold cOk
  simp only [Bool.and_eq_true, decide_eq_true_eq]
  constructor
  · rintro ⟨⟨a, b⟩, d, e⟩
    constructor <;> omega
  · rintro ⟨a, b, c, d⟩
    omega
theorem shr_zero (s n : Nat) : ((s : Int) / 2 ^ ((n : Int)).toNat = 0) ↔ s < 2 ^ n := by
  rw [Int.toNat_natCast]
  have e : ((2 : Int) ^ n) = ((2 ^ n : Nat) : Int) := by rw [Int.natCast_pow] <;> rfl
  rw [e, ← Int.natCast_ediv]
  have h : 0 < 2 ^ n := Nat.pow_pos (by decide)
  constructor
  · intro q
    have q' : s / 2 ^ n = 0 := by omega
    rcases (Nat.div_eq_zero_iff).mp q' with z | z
    · omega
    · exact z
  · intro q
    rw [Nat.div_eq_of_lt q]
    rfl
section
variable {P : Program} {w : World} {K : PySem.W.Frag} {mg : Str → Option Value} {base : Heap} {CW CC CM CY : Addr}
theorem scCrate : FnScope ["self", "numbers"] ["self", "numbers"] (defScope sCrate) := ⟨rfl, rfl, rfl, by decide +kernel, rfl, by decide +kernel, by decide +kernel⟩
theorem ok_crate {f : Addr} {fd : FuncData} (F : Fun K "__init__" "Crate.__init__" sCrate f fd) (T : Txt K mg CW CC CM CY) : FnOk P w K mg base CX0 1 f fd ["self", "numbers"] (spCrate K CC) := by
  refine F.ok scCrate (fun vs H Q E h => ?_) (fun cdv A outer s H vs Q E hr h => ?_)
  · obtain ⟨p, dx, l, w, rfl, _⟩ := h
    rfl
  · obtain ⟨p, dx, l, c, rfl, hp, hl, k⟩ := h
    refine ⟨_, pss_cons (ps_fld (pv 0) (pe_ix ix_list (pv 1) pe_int (fun _ _ => rfl)) rfl)
      (pss_cons (ps_fld (pv 0) (pe_ix ix_list (pv 1) pe_int (fun _ _ => rfl)) rfl)
      (pss_cons (ps_fld (pv 0) (pe_ix ix_list (pv 1) pe_int (fun _ _ => rfl)) rfl)
      (pss_one (ps_fld (pv 0) (pe_ix ix_list (pv 1) pe_int (fun _ _ => rfl)) rfl)))), ?_⟩
    refine ⟨_, rfl, l, _, _, _, rfl, rfl, hl, atI_nat (j := 0) rfl, _, rfl, p, CC, dx, _, rfl, hp, T.cC, T.kH, (by show 0 < 1000; decide), ?_⟩
    have b1 : SameBut p H (upd H p (.ins CC dx (putF "heavy" (.int c.heavy) []))) := SameBut.upd
    have hl1 := SqL.but hl b1 hp
    refine ⟨_, rfl, l, _, _, _, rfl, rfl, hl1, atI_nat (j := 1) rfl, _, rfl, p, CC, dx, _, rfl, upd_same, T.cC, T.kC, (by show 1 < 1000; decide), ?_⟩
    rw [upd_upd]
    have b2 : SameBut p H (upd H p (.ins CC dx (putF "copper" (.int c.copper) (putF "heavy" (.int c.heavy) [])))) := SameBut.upd
    have hl2 := SqL.but hl b2 hp
    refine ⟨_, rfl, l, _, _, _, rfl, rfl, hl2, atI_nat (j := 2) rfl, _, rfl, p, CC, dx, _, rfl, upd_same, T.cC, T.kZ, (by rw [put_nil, put_past (by decide +kernel)]; show 2 < 1000; decide), ?_⟩
    rw [upd_upd]
    have b3 : SameBut p H (upd H p (.ins CC dx (putF "zinc" (.int c.zinc) (putF "copper" (.int c.copper) (putF "heavy" (.int c.heavy) []))))) := SameBut.upd
    have hl3 := SqL.but hl b3 hp
    refine ⟨_, rfl, l, _, _, _, rfl, rfl, hl3, atI_nat (j := 3) rfl, _, rfl, p, CC, dx, _, rfl, upd_same, T.cC, T.kP, (by rw [put_nil, put_past (by decide +kernel), put_past (by decide +kernel), put_nil, put_past (by decide +kernel)]; show 3 < 1000; decide), ?_⟩
    rw [upd_upd]
    refine k _ SameBut.upd ⟨dx, ?_⟩
    rw [upd_same, put_nil, put_past (by decide +kernel), put_past (by decide +kernel), put_nil, put_past (by decide +kernel), put_past (by decide +kernel), put_past (by decide +kernel), put_nil, put_past (by decide +kernel)]
    rfl
theorem scLimits : FnScope ["limits", "lowest", "highest"] ["limits", "lowest", "highest"] (defScope sLimits) := ⟨rfl, rfl, rfl, by decide +kernel, rfl, by decide +kernel, by decide +kernel⟩
theorem ok_limits {f : Addr} {fd : FuncData} (F : Fun K "limits_are_as_told" "limits_are_as_told" sLimits f fd) : FnOk P w K mg base CX0 1 f fd ["limits", "lowest", "highest"] (spLimits K) := by
  refine F.ok scLimits (fun vs H Q E h => ?_) (fun cdv A outer s H vs Q E hr h => ?_)
  · obtain ⟨t, a, b, lo, hi, rfl, _⟩ := h
    rfl
  · obtain ⟨t, a, b, lo, hi, rfl, ht, k⟩ := h
    refine ⟨_, pss_one (ps_ret (pe_chain3 op_le op_le op_le (pv 1) (pe_ix ix_tup (pv 0) pe_int (fun _ _ => rfl)) (pe_ix ix_tup (pv 0) pe_int (fun _ _ => rfl)) (pv 2))), ?_⟩
    refine ⟨_, rfl, _, rfl, t, _, _, _, rfl, rfl, ht, atI_nat (j := 0) rfl, _, _, rfl, rfl, _, rfl, ite2 (fun h1 => ?_) (fun h1 => ?_)⟩
    · refine ⟨_, rfl, t, _, _, _, rfl, rfl, ht, atI_nat (j := 1) rfl, _, _, rfl, rfl, _, rfl, ite2 (fun h2 => ?_) (fun h2 => ?_)⟩
      · refine ⟨_, rfl, _, _, rfl, rfl, ?_⟩
        have e : inRow lo a b hi = decide (b ≤ hi) := by unfold inRow; rw [h1, h2]; rfl
        rw [e] at k
        exact k
      · have e : inRow lo a b hi = false := by unfold inRow; rw [h1, Bool.eq_false_iff.mpr h2]; rfl
        rw [e] at k
        exact k
    · have e : inRow lo a b hi = false := by unfold inRow; rw [Bool.eq_false_iff.mpr h1]; rfl
      rw [e] at k
      exact k
theorem scWantedOk : FnScope ["wanted"] ["wanted"] (defScope sWantedOk) := ⟨rfl, rfl, rfl, by decide +kernel, rfl, by decide +kernel, by decide +kernel⟩
theorem ok_wantedOk {f : Addr} {fd : FuncData} (F : Fun K "wanted_is_as_told" "wanted_is_as_told" sWantedOk f fd) (T : Txt K mg CW CC CM CY) (DL : Df P w K mg base "limits_are_as_told" 1 ["limits", "lowest", "highest"] (spLimits K)) : FnOk P w K mg base CX0 2 f fd ["wanted"] (spWantedOk CW) := by
  refine F.ok scWantedOk (fun vs H Q E h => ?_) (fun cdv A outer s H vs Q E hr h => ?_)
  · obtain ⟨a, w, rfl, _⟩ := h
    rfl
  · obtain ⟨a, w, rfl, ⟨dx, t1, t2, t3, ha, h1, h2, h3⟩, k⟩ := h
    refine ⟨_, pss_one (ps_ret (pe_and (pe_df DL hr rfl (pa_cons (pe_fld (pv 0) rfl) (pa_cons pe_int (pa_cons (pe_gi T.gHW rfl) pa_nil))))
      (pe_and (pe_df DL hr rfl (pa_cons (pe_fld (pv 0) rfl) (pa_cons pe_int (pa_cons (pe_gi T.gWh rfl) pa_nil))))
      (pe_one (pe_df DL hr rfl (pa_cons (pe_fld (pv 0) rfl) (pa_cons pe_int (pa_cons (pe_gi T.gWh rfl) pa_nil)))))))), ?_⟩
    refine ⟨_, rfl, a, CW, dx, _, _, rfl, ha, T.cW, T.wH, wF_h t1 t2 t3, t1, _, _, _, _, rfl, SqT.of h1, _, rfl, ite2 (fun e1 => ?_) (fun e1 => ?_)⟩
    · refine ⟨_, rfl, a, CW, dx, _, _, rfl, ha, T.cW, T.wC, wF_c t1 t2 t3, t2, _, _, _, _, rfl, SqT.of h2, _, rfl, ite2 (fun e2 => ?_) (fun e2 => ?_)⟩
      · refine ⟨_, rfl, a, CW, dx, _, _, rfl, ha, T.cW, T.wZ, wF_z t1 t2 t3, t3, _, _, _, _, rfl, SqT.of h3, ?_⟩
        have e : wOk w = inRow 0 w.zincLow w.zincHigh 1000 := by unfold wOk; rw [e1, e2]; rfl
        rw [e] at k
        exact k
      · have e : wOk w = false := by unfold wOk; rw [e1, Bool.eq_false_iff.mpr e2]; rfl
        rw [e] at k
        exact k
    · have e : wOk w = false := by unfold wOk; rw [Bool.eq_false_iff.mpr e1]; rfl
      rw [e] at k
      exact k
theorem scCrateOk : FnScope ["crate"] ["crate"] (defScope sCrateOk) := ⟨rfl, rfl, rfl, by decide +kernel, rfl, by decide +kernel, by decide +kernel⟩
theorem ok_crateOk {f : Addr} {fd : FuncData} (F : Fun K "crate_is_as_told" "crate_is_as_told" sCrateOk f fd) (T : Txt K mg CW CC CM CY) : FnOk P w K mg base CX0 1 f fd ["crate"] (spCrateOk CC) := by
  refine F.ok scCrateOk (fun vs H Q E h => ?_) (fun cdv A outer s H vs Q E hr h => ?_)
  · obtain ⟨a, c, rfl, _⟩ := h
    rfl
  · obtain ⟨a, c, rfl, ⟨dx, ha⟩, k⟩ := h
    refine ⟨_, pss_one (ps_ret (pe_and (pe_chain op_le op_le pe_int (pe_fld (pv 0) rfl) (pe_gi T.gHC rfl))
      (pe_and (pe_cmpR op_le (pe_op op_add (pe_fld (pv 0) rfl) (pe_fld (pv 0) rfl)) (pe_gi T.gWh rfl) (nomark _))
      (pe_one (pe_cmpR op_le (pe_fld (pv 0) rfl) (pe_gi T.gHP rfl) (nomark _)))))), ?_⟩
    have go2 : ∀ (Z : Bool), ((decide ((1 : Int) ≤ (c.heavy : Int)) && decide ((c.heavy : Int) ≤ 200)) = Z) → Q (.bl (Z && (decide ((c.copper : Int) + (c.zinc : Int) ≤ 1000) && decide ((c.price : Int) ≤ 1000)))) H := fun Z e => by
      rw [← e]
      exact k
    refine ⟨_, rfl, a, CC, dx, _, _, rfl, ha, T.cC, T.kH, cF_h c, _, _, rfl, rfl, _, rfl, ite2 (fun e1 => ?_) (fun e1 => ?_)⟩
    · refine ⟨_, _, rfl, rfl, _, rfl, ite2 (fun e2 => ?_) (fun e2 => ?_)⟩
      · refine ⟨_, rfl, a, CC, dx, _, _, rfl, ha, T.cC, T.kC, cF_c c, _, rfl, a, CC, dx, _, _, rfl, ha, T.cC, T.kZ, cF_z c, _, _, rfl, rfl, _, _, rfl, rfl, _, rfl, ite2 (fun e3 => ?_) (fun e3 => ?_)⟩
        · refine ⟨_, rfl, a, CC, dx, _, _, rfl, ha, T.cC, T.kP, cF_p c, _, _, rfl, rfl, ?_⟩
          have g := go2 true (by rw [e1, e2]; rfl)
          rw [e3] at g
          exact g
        · have g := go2 true (by rw [e1, e2]; rfl)
          rw [Bool.eq_false_iff.mpr e3] at g
          exact g
      · have g := go2 false (by rw [e1, Bool.eq_false_iff.mpr e2]; rfl)
        exact g
    · have g := go2 false (by rw [Bool.eq_false_iff.mpr e1]; rfl)
      exact ⟨_, rfl, iteF g⟩
theorem scIsMelt : FnScope ["crates", "number"] ["crates", "number"] (defScope sIsMelt) := ⟨rfl, rfl, rfl, by decide +kernel, rfl, by decide +kernel, by decide +kernel⟩
theorem ok_isMelt {f : Addr} {fd : FuncData} (F : Fun K "is_melt" "is_melt" sIsMelt f fd) (T : Txt K mg CW CC CM CY) : FnOk P w K mg base CX0 1 f fd ["crates", "number"] (spIsMelt K) := by
  refine F.ok scIsMelt (fun vs H Q E h => ?_) (fun cdv A outer s H vs Q E hr h => ?_)
  · obtain ⟨l, xs, s, rfl, _⟩ := h
    rfl
  · obtain ⟨l, xs, n, rfl, hl, k⟩ := h
    refine ⟨_, pss_one (ps_ret (pe_and (pe_cmpR op_gt (pv 1) pe_int (nomark _))
      (pe_one (pe_cmp (pc_eqI (pe_op op_shr (pv 1) (pe_callB call_len_seq (by rfl) T.len PySem.boot_len (pa_cons (pv 0) pa_nil))) pe_int) rfl)))), ?_⟩
    refine ⟨_, rfl, _, _, rfl, rfl, _, rfl, ite2 (fun e1 => ?_) (fun e1 => ?_)⟩
    · refine ⟨_, rfl, _, rfl, l, xs, rfl, .inl hl, _, _, rfl, rfl, Int.natCast_nonneg _, _, _, rfl, rfl, ?_⟩
      have e : (decide (1 ≤ n) && decide (n < 2 ^ xs.length)) = decide ((n : Int) / 2 ^ ((xs.length : Int)).toNat = 0) := by
        rw [decide_eq_decide.mpr (shr_zero n xs.length), decide_eq_true (show 1 ≤ n by have := of_decide_eq_true e1; omega)]
        rfl
      rw [e] at k
      exact k
    · have e : (decide (1 ≤ n) && decide (n < 2 ^ xs.length)) = false := by
        rw [decide_eq_false (show ¬ 1 ≤ n by have := of_decide_eq_false (Bool.eq_false_iff.mpr e1); omega)]
        rfl
      rw [e] at k
      exact k
theorem scWithin : FnScope ["weighted", "weight", "limits"] ["weighted", "weight", "limits"] (defScope sWithin) := ⟨rfl, rfl, rfl, by decide +kernel, rfl, by decide +kernel, by decide +kernel⟩
theorem ok_within {f : Addr} {fd : FuncData} (F : Fun K "within" "within" sWithin f fd) : FnOk P w K mg base CX0 1 f fd ["weighted", "weight", "limits"] (spWithin K) := by
  refine F.ok scWithin (fun vs H Q E h => ?_) (fun cdv A outer s H vs Q E hr h => ?_)
  · obtain ⟨t, x, w, lo, hi, rfl, _⟩ := h
    rfl
  · obtain ⟨t, x, w, lo, hi, rfl, ht, b1, b2, k⟩ := h
    refine ⟨_, pss_one (ps_ret (pe_chain op_le op_le (pe_op op_mul (pe_ix ix_tup (pv 2) pe_int (fun _ _ => rfl)) (pv 1)) (pv 0) (pe_op op_mul (pe_ix ix_tup (pv 2) pe_int (fun _ _ => rfl)) (pv 1)))), ?_⟩
    refine ⟨_, rfl, t, _, _, _, rfl, rfl, ht, atI_nat (j := 0) rfl, _, rfl, _, _, rfl, rfl, .inl b1, _, rfl, _, _, rfl, rfl, _, rfl, ite2 (fun e1 => ?_) (fun e1 => ?_)⟩
    · refine ⟨_, rfl, t, _, _, _, rfl, rfl, ht, atI_nat (j := 1) rfl, _, rfl, _, _, rfl, rfl, .inl b2, _, _, rfl, rfl, ?_⟩
      have e : inLim x w lo hi = decide (x ≤ hi * w) := by unfold inLim; rw [e1]; rfl
      rw [e] at k
      exact k
    · have e : inLim x w lo hi = false := by unfold inLim; rw [Bool.eq_false_iff.mpr e1]; rfl
      rw [e] at k
      exact k
theorem scWrong : FnScope ["melt", "wanted"] ["melt", "wanted"] (defScope sWrong) := ⟨rfl, rfl, rfl, by decide +kernel, rfl, by decide +kernel, by decide +kernel⟩
theorem ok_wrong {f : Addr} {fd : FuncData} (F : Fun K "wrong_with" "wrong_with" sWrong f fd) (T : Txt K mg CW CC CM CY) (DW : Df P w K mg base "within" 1 ["weighted", "weight", "limits"] (spWithin K)) : FnOk P w K mg base CX0 2 f fd ["melt", "wanted"] (spWrong CM CW) := by
  refine F.ok scWrong (fun vs H Q E h => ?_) (fun cdv A outer s H vs Q E hr h => ?_)
  · obtain ⟨a, b, m, w, rfl, _⟩ := h
    rfl
  · obtain ⟨a, b, m, w, rfl, ⟨dm, ha⟩, ⟨dx, t1, t2, t3, hb, h1, h2, h3⟩, G, k⟩ := h
    refine ⟨_, pss_cons (ps_if (pt_not (pt_val (pe_df DW hr rfl (pa_cons (pe_fld (pv 0) rfl) (pa_cons pe_int (pa_cons (pe_fld (pv 1) rfl) pa_nil)))))) (pss_one (ps_ret pe_int)) pss_nil)
      (pss_cons (ps_if (pt_not (pt_val (pe_df DW hr rfl (pa_cons (pe_fld (pv 0) rfl) (pa_cons (pe_fld (pv 0) rfl) (pa_cons (pe_fld (pv 1) rfl) pa_nil)))))) (pss_one (ps_ret pe_int)) pss_nil)
      (pss_cons (ps_if (pt_not (pt_val (pe_df DW hr rfl (pa_cons (pe_fld (pv 0) rfl) (pa_cons (pe_fld (pv 0) rfl) (pa_cons (pe_fld (pv 1) rfl) pa_nil)))))) (pss_one (ps_ret pe_int)) pss_nil)
      (pss_one (ps_ret pe_int)))), ?_⟩
    have q1 := G.a2
    have q2 := G.a3
    have q3 := G.b2
    have q4 := G.b3
    have q5 := G.c2
    have q6 := G.c3
    have sm : ∀ n : Nat, n ≤ 1000 → Small (n : Int) := fun n hn => ⟨by omega, by omega⟩
    unfold wrongI at k
    refine ⟨_, rfl, a, CM, dm, _, _, rfl, ha, T.cM, T.mH, mF_h m, _, rfl, b, CW, dx, _, _, rfl, hb, T.cW, T.wH, wF_h t1 t2 t3, t1, _, _, _, _, rfl, SqT.of h1, sm _ (by omega), sm _ (by omega), _, rfl, ite2 (fun e1 => ?_) (fun e1 => ?_)⟩
    · rw [if_pos e1] at k
      exact k
    · rw [if_neg e1] at k
      refine ⟨_, rfl, a, CM, dm, _, _, rfl, ha, T.cM, T.mC, mF_c m, _, rfl, a, CM, dm, _, _, rfl, ha, T.cM, T.mH, mF_h m, _, rfl, b, CW, dx, _, _, rfl, hb, T.cW, T.wC, wF_c t1 t2 t3, t2, _, _, _, _, rfl, SqT.of h2, sm _ (by omega), sm _ (by omega), _, rfl, ite2 (fun e2 => ?_) (fun e2 => ?_)⟩
      · rw [if_pos e2] at k
        exact k
      · rw [if_neg e2] at k
        refine ⟨_, rfl, a, CM, dm, _, _, rfl, ha, T.cM, T.mZ, mF_z m, _, rfl, a, CM, dm, _, _, rfl, ha, T.cM, T.mH, mF_h m, _, rfl, b, CW, dx, _, _, rfl, hb, T.cW, T.wZ, wF_z t1 t2 t3, t3, _, _, _, _, rfl, SqT.of h3, sm _ (by omega), sm _ (by omega), _, rfl, ite2 (fun e3 => ?_) (fun e3 => ?_)⟩
        · rw [if_pos e3] at k
          exact k
        · rw [if_neg e3] at k
          exact k
theorem scLowest : FnScope ["above", "below", "divisor", "rest", "following"] ["above", "below"] (defScope sLowest) := ⟨rfl, rfl, rfl, by decide +kernel, rfl, by decide +kernel, by decide +kernel⟩
theorem ok_lowest {f : Addr} {fd : FuncData} (F : Fun K "in_lowest_terms" "in_lowest_terms" sLowest f fd) : FnOk P w K mg base CX0 1 f fd ["above", "below"] spLowest := by
  refine F.ok scLowest (fun vs H Q E h => ?_) (fun cdv A outer s H vs Q E hr h => ?_)
  · obtain ⟨a, b, rfl, _⟩ := h
    rfl
  · obtain ⟨a, b, rfl, hb, hz, k⟩ := h
    refine ⟨_, pss_cons (ps_set (i := 2) scLowest.nd rfl (.inl rfl) (pv 1))
      (pss_cons (ps_set (i := 3) scLowest.nd rfl (.inl rfl) (pv 0))
      (pss_cons (ps_while PassesOwn.never (pt_cmpR op_gt (pv 3) pe_int (nomark _))
        (pss_cons (ps_set (i := 4) scLowest.nd rfl (.inl rfl) (pe_op op_modN (pv 2) (pv 3)))
        (pss_cons (ps_set (i := 2) scLowest.nd rfl (.inl rfl) (pv 3))
        (pss_one (ps_set (i := 3) scLowest.nd rfl (.inl rfl) (pv 4))))))
      (pss_one (ps_ret (pe_lst (pa_cons (pe_op op_fdivN (pv 0) (pv 2)) (pa_cons (pe_op op_fdivN (pv 1) (pv 2)) pa_nil))))))), ?_⟩
    refine ⟨_, rfl, _, rfl, ?_⟩
    refine ⟨fun m σ H' => H' = H ∧ ∃ (d : Nat) (v : Option V), σ = [some (.int (a : Int)), some (.int (b : Int)), some (.int (d : Int)), some (.int (m : Int)), v] ∧ Nat.gcd d m = Nat.gcd a b ∧ 0 < d, ⟨a, rfl, b, none, rfl, Nat.gcd_comm b a, hb⟩, ?_⟩
    rintro m σ H' ⟨rfl, d, v, rfl, hg, hd⟩
    refine ⟨_, rfl, _, _, rfl, rfl, _, rfl, ite2 (fun e1 => ?_) (fun e1 => ?_)⟩
    · have hm : 0 < m := by have := of_decide_eq_true e1; omega
      refine ⟨fun σ' H2 => H2 = H' ∧ ∃ v, σ' = [some (.int (a : Int)), some (.int (b : Int)), some (.int (m : Int)), some (.int ((d % m : Nat) : Int)), v], ?_, ?_⟩
      · rintro σ' H2 ⟨rfl, v', rfl⟩
        exact ⟨d % m, Nat.mod_lt _ hm, rfl, m, v', rfl, (gcd_turn d m).trans hg, hm⟩
      · refine ⟨_, rfl, _, rfl, _, _, rfl, rfl, (by omega), _, rfl, _, rfl, rfl, some (.int ((d % m : Nat) : Int)), ?_⟩
        have e : (d : Int).fmod (m : Int) = ((d % m : Nat) : Int) := by
          rw [Int.fmod_eq_emod_of_nonneg _ (by omega)]
          rfl
        dsimp only
        rw [e]
        rfl
    · have hm : m = 0 := by have := of_decide_eq_false (Bool.eq_false_iff.mpr e1); omega
      subst hm
      rw [Nat.gcd_zero_right] at hg
      subst hg
      have hdb : Nat.gcd a b ≤ b := Nat.gcd_le_right _ hb
      have ed : ∀ n : Nat, (n : Int).fdiv ((Nat.gcd a b : Nat) : Int) = ((n / Nat.gcd a b : Nat) : Int) := fun n => by
        rw [Int.fdiv_eq_ediv_of_nonneg _ (Int.natCast_nonneg _)]
        rfl
      refine ⟨_, rfl, _, rfl, _, _, rfl, rfl, ⟨by omega, by omega⟩, _, rfl, _, rfl, _, _, rfl, rfl, ⟨by omega, by omega⟩, (by show 2 ≤ sizeLine; decide), fun p hp => ?_⟩
      dsimp only
      rw [ed, ed]
      exact k _ p (same_upd hp) hp upd_same
end
end Scrap

set_option Elab.async false
set_option maxRecDepth 100000
set_option maxHeartbeats 4000000
/-! A melt: made, told, compared. -/
namespace Scrap
open PySem PySem.Spec PyProof.Rows L2
/-! ### sums -/
theorem cast_sum {β : Type} (f : β → Nat) : ∀ l : List β, (l.map fun x => ((f x : Nat) : Int)).sum = (((l.map f).sum : Nat) : Int)
  | [] => rfl
  | x :: r => by
    rw [List.map_cons, List.sum_cons, List.map_cons, List.sum_cons, cast_sum f r, Int.natCast_add]
def melFrom (n : Nat) (cs : List Sj14.Crate) : Mel := ⟨n, cs.length, (cs.map (·.heavy)).sum, (cs.map (·.price)).sum, (cs.map fun c => c.heavy * c.copper).sum, (cs.map fun c => c.heavy * c.zinc).sum⟩
/-- the crates of a melt -/
def picked (y : Sj14.Yard) (s n : Nat) : List Sj14.Crate := ((List.range n).filter fun i => s.testBit i).map y.crate
theorem melOf_picked (y : Sj14.Yard) (s : Nat) : melFrom s (picked y s y.count) = melOf y s := by
  unfold melFrom melOf picked
  rw [List.length_map, List.map_map, List.map_map, List.map_map, List.map_map]
  rfl
theorem picked_succ (y : Sj14.Yard) (s n : Nat) : picked y s (n + 1) = picked y s n ++ (if s.testBit n = true then [y.crate n] else []) := by
  unfold picked
  rw [List.range_succ, List.filter_append, List.map_append, List.filter_cons]
  congr 1
  split <;> rfl
theorem picked_good {y : Sj14.Yard} (G : Good y) (s : Nat) : ∀ c ∈ picked y s y.count, GoodC c := fun c hc => by
  unfold picked at hc
  obtain ⟨i, hi, rfl⟩ := List.mem_map.mp hc
  exact crate_good G (List.mem_range.mp (List.mem_filter.mp hi).1)
theorem picked_len (y : Sj14.Yard) (s n : Nat) : (picked y s n).length ≤ n := by
  unfold picked
  rw [List.length_map]
  have h := List.length_filter_le (fun i => s.testBit i) (List.range n)
  rw [List.length_range] at h
  exact h
theorem bit_is (s i : Nat) : decide (Builtin.bitAnd ((s : Int) / 2 ^ ((i : Int)).toNat) 1 = 1) = s.testBit i := by
  rw [bitAnd_m1, Int.toNat_natCast]
  have e : ((2 : Int) ^ i) = ((2 ^ i : Nat) : Int) := by rw [Int.natCast_pow] <;> rfl
  rw [e, ← Int.natCast_ediv, Nat.testBit_eq_decide_div_mod_eq]
  refine decide_eq_decide.mpr ?_
  omega
/-! ### promises -/
def spMelt (CM CC : Addr) : Sp := fun vs H Q _ => ∃ (p dx l : Addr) (n : Nat) (cs : List Sj14.Crate), vs = [.ref p, .int (n : Int), .ref l] ∧ H p = some (.ins CM dx []) ∧ RefsAt (CrateAt CC) H l cs ∧ (∀ c ∈ cs, GoodC c) ∧ cs.length ≤ 8 ∧
  ∀ H' : Hp, SameBut p H H' → MeltAt CM H' p (melFrom n cs) → Q .non H'
def spMeltOf (CM CC : Addr) : Sp := fun vs H Q _ => ∃ (l : Addr) (s : Nat) (y : Sj14.Yard), vs = [.ref l, .int (s : Int)] ∧ RefsAt (CrateAt CC) H l y.crates ∧ Good y ∧
  ∀ (H' : Hp) (p : Addr), Same H H' → H p = none → MeltAt CM H' p (melOf y s) → Q (.ref p) H'
/-- heavy, copper, zinc: what check tells -/
def told5 (m : Mel) : List Nat := [m.heavy] ++ Sj14.parts m.copper m.heavy ++ Sj14.parts m.zinc m.heavy
def spMakeup (CM : Addr) : Sp := fun vs H Q _ => ∃ (a : Addr) (m : Mel), vs = [.ref a] ∧ MeltAt CM H a m ∧ 0 < m.heavy ∧ m.heavy < 1073741824 ∧
  ∀ (H' : Hp) (p : Addr), Same H H' → H p = none → H' p = some (.lst ((Sj14.ints (told5 m)).map V.int)) → Q (.ref p) H'
def offOf (m : Mel) (k : Nat) : Nat := Sj14.apart m.copper (k * m.heavy)
def spDist (CM : Addr) : Sp := fun vs H Q _ => ∃ (a : Addr) (m : Mel) (k : Nat), vs = [.ref a, .int (k : Int)] ∧ MeltAt CM H a m ∧ 0 < m.heavy ∧ m.heavy < 1073741824 ∧ k < 1073741824 ∧
  ∀ (H' : Hp) (p : Addr), Same H H' → H p = none → H' p = some (.lst ((Sj14.ints (Sj14.parts (offOf m k) m.heavy)).map V.int)) → Q (.ref p) H'
def spLess (K : PySem.W.Frag) : Sp := fun vs H Q _ => ∃ (f g : Addr) (a b c d : Nat), vs = [.ref f, .ref g] ∧ SqL K H f [.int (a : Int), .int (b : Int)] ∧ SqL K H g [.int (c : Int), .int (d : Int)] ∧ b < 1073741824 ∧ d < 1073741824 ∧
  Q (.bl (decide (a * d < c * b))) H
theorem abs_is (c k h : Nat) : (if (c : Int) - (k : Int) * (h : Int) < 0 then -((c : Int) - (k : Int) * (h : Int)) else (c : Int) - (k : Int) * (h : Int)) = ((Sj14.apart c (k * h) : Nat) : Int) := by
  rw [← Int.natCast_mul]
  generalize k * h = z
  unfold Sj14.apart
  split <;> omega
theorem RefsAt.but {CC p C dx l : Addr} {H H' : Hp} {cs : List Sj14.Crate} (h : RefsAt (CrateAt CC) H l cs) (hp : H p = some (.ins C dx [])) (s : SameBut p H H') : RefsAt (CrateAt CC) H' l cs := by
  obtain ⟨as, h1, h2⟩ := h
  refine ⟨as, s _ _ h1 (ne_of h1 hp (by intro z; cases z)), h2.imp ?_⟩
  rintro a b ⟨dx', q⟩
  refine ⟨dx', s _ _ q (ne_of q hp ?_)⟩
  intro z
  injection z with _ _ z
  unfold cF at z
  cases z
section
variable {P : Program} {w : World} {K : PySem.W.Frag} {mg : Str → Option Value} {base : Heap} {CW CC CM CY : Addr}
theorem scMelt : FnScope ["self", "number", "crates", "crate"] ["self", "number", "crates"] (defScope sMelt) := ⟨rfl, rfl, rfl, by decide +kernel, rfl, by decide +kernel, by decide +kernel⟩
theorem ok_melt {f : Addr} {fd : FuncData} (F : Fun K "__init__" "Melt.__init__" sMelt f fd) (T : Txt K mg CW CC CM CY) : FnOk P w K mg base CX0 1 f fd ["self", "number", "crates"] (spMelt CM CC) := by
  refine F.ok scMelt (fun vs H Q E h => ?_) (fun cdv A outer s H vs Q E hr h => ?_)
  · obtain ⟨p, dx, l, n, cs, rfl, _⟩ := h
    rfl
  · obtain ⟨p, dx, l, n, cs, rfl, hp, hL, hG, h8, k⟩ := h
    refine ⟨_, pss_cons (ps_fld (pv 0) (pv 1) rfl)
      (pss_cons (ps_fld (pv 0) (pe_callB call_len_seq (by rfl) T.len PySem.boot_len (pa_cons (pv 2) pa_nil)) rfl)
      (pss_cons (ps_fld (pv 0) (pe_callB (cr_sum rfl) (by rfl) T.sum boot_sum (pa_cons (pe_lc (own := [("crate", 3)]) (g := gName 3) (tt := tYes) (te := tFld K (tVar 3) "heavy") rfl scMelt.nd (pi_list (pv 2)) (blkOk_by (N := ["self", "number", "crates", "crate"]) (sc := defScope sMelt) (by decide +kernel)) (fun _ _ _ _ _ => pg_name (i := 3) scMelt.nd rfl (Or.inl rfl)) (fun _ _ _ _ _ => pts_nil) (fun _ _ _ _ _ => pe_fld (pv 3) rfl)) pa_nil)) rfl)
      (pss_cons (ps_fld (pv 0) (pe_callB (cr_sum rfl) (by rfl) T.sum boot_sum (pa_cons (pe_lc (own := [("crate", 3)]) (g := gName 3) (tt := tYes) (te := tFld K (tVar 3) "price") rfl scMelt.nd (pi_list (pv 2)) (blkOk_by (N := ["self", "number", "crates", "crate"]) (sc := defScope sMelt) (by decide +kernel)) (fun _ _ _ _ _ => pg_name (i := 3) scMelt.nd rfl (Or.inl rfl)) (fun _ _ _ _ _ => pts_nil) (fun _ _ _ _ _ => pe_fld (pv 3) rfl)) pa_nil)) rfl)
      (pss_cons (ps_fld (pv 0) (pe_callB (cr_sum rfl) (by rfl) T.sum boot_sum (pa_cons (pe_lc (own := [("crate", 3)]) (g := gName 3) (tt := tYes) (te := tOp (rI CMul fun i j => .int (i * j)) (tFld K (tVar 3) "heavy") (tFld K (tVar 3) "copper")) rfl scMelt.nd (pi_list (pv 2)) (blkOk_by (N := ["self", "number", "crates", "crate"]) (sc := defScope sMelt) (by decide +kernel)) (fun _ _ _ _ _ => pg_name (i := 3) scMelt.nd rfl (Or.inl rfl)) (fun _ _ _ _ _ => pts_nil) (fun _ _ _ _ _ => pe_op op_mul (pe_fld (pv 3) rfl) (pe_fld (pv 3) rfl))) pa_nil)) rfl)
      (pss_one (ps_fld (pv 0) (pe_callB (cr_sum rfl) (by rfl) T.sum boot_sum (pa_cons (pe_lc (own := [("crate", 3)]) (g := gName 3) (tt := tYes) (te := tOp (rI CMul fun i j => .int (i * j)) (tFld K (tVar 3) "heavy") (tFld K (tVar 3) "zinc")) rfl scMelt.nd (pi_list (pv 2)) (blkOk_by (N := ["self", "number", "crates", "crate"]) (sc := defScope sMelt) (by decide +kernel)) (fun _ _ _ _ _ => pg_name (i := 3) scMelt.nd rfl (Or.inl rfl)) (fun _ _ _ _ _ => pts_nil) (fun _ _ _ _ _ => pe_op op_mul (pe_fld (pv 3) rfl) (pe_fld (pv 3) rfl))) pa_nil)) rfl)))))), ?_⟩
    have hz : cs.length < sizeLine := small1000 (by omega)
    have lists : ∀ H' : Hp, SameBut p H H' → RefsAt (CrateAt CC) H' l cs := fun H' s' => RefsAt.but hL hp s'
    -- number
    refine ⟨_, rfl, _, rfl, p, CM, dx, _, rfl, hp, T.cM, T.mN, (by show 0 < 1000; decide), ?_⟩
    generalize e1 : upd H p _ = H1
    have b1 : SameBut p H H1 := by subst e1; exact SameBut.upd
    have p1 : H1 p = some (.ins CM dx [("number", .int (n : Int))]) := by subst e1; exact upd_same
    -- how many
    obtain ⟨as1, l1, w1⟩ := lists H1 b1
    have c1 : (as1.map V.ref).length = cs.length := by rw [List.length_map, w1.len]
    refine ⟨_, rfl, l, _, rfl, .inl (SqL.of l1), _, rfl, p, CM, dx, _, rfl, p1, T.cM, T.mK, (by show 1 < 1000; decide), ?_⟩
    rw [c1]
    generalize e2 : upd H1 p _ = H2
    have b2 : SameBut p H H2 := by subst e2; exact b1.trans SameBut.upd
    have p2 : H2 p = some (.ins CM dx [("number", .int (n : Int)), ("crate_count", .int (cs.length : Int))]) := by subst e2; exact upd_same.trans (congrArg (fun q => some (HO.ins CM dx q)) (put_past (by decide +kernel)))
    -- heavy
    dsimp only [tSeq, sFld, tCB, tCons, tNil]
    refine lc_ints (i := 2) (j := 3) (R := CrateAt CC) (bs := cs) (fun c => ((c.heavy : Nat) : Int)) (crate_mono CC) ?_ (lists H2 b2) hz ?_ ?_
    · rfl
    · exact (fun a c H' Q' _ ⟨dc, ha⟩ q => ⟨_, rfl, a, CC, dc, _, _, rfl, ha, T.cC, T.kH, cF_h c, q⟩)
    intro D H3 s3 hD
    refine ⟨D, _, rfl, SqL.of hD, _, rfl, p, CM, dx, _, rfl, s3 _ _ p2, T.cM, T.mH, (by show 2 < 1000; decide), ?_⟩
    rw [cast_sum]
    generalize e3 : upd H3 p _ = H4
    have b3 : SameBut p H H4 := by subst e3; exact (b2.trans (Same.but s3)).trans SameBut.upd
    have p3 : H4 p = some (.ins CM dx [("number", .int (n : Int)), ("crate_count", .int (cs.length : Int)), ("heavy", .int (((cs.map (·.heavy)).sum : Nat) : Int))]) := by
      subst e3
      exact upd_same.trans (congrArg (fun q => some (HO.ins CM dx q)) ((put_past (by decide +kernel)).trans (congrArg _ (put_past (by decide +kernel)))))
    -- price
    refine lc_ints (i := 2) (j := 3) (R := CrateAt CC) (bs := cs) (fun c => ((c.price : Nat) : Int)) (crate_mono CC) ?_ (lists H4 b3) hz ?_ ?_
    · rfl
    · exact (fun a c H' Q' _ ⟨dc, ha⟩ q => ⟨_, rfl, a, CC, dc, _, _, rfl, ha, T.cC, T.kP, cF_p c, q⟩)
    intro D H5 s5 hD
    refine ⟨D, _, rfl, SqL.of hD, _, rfl, p, CM, dx, _, rfl, s5 _ _ p3, T.cM, T.mP, (by show 3 < 1000; decide), ?_⟩
    rw [cast_sum]
    generalize e4 : upd H5 p _ = H6
    have b4 : SameBut p H H6 := by subst e4; exact (b3.trans (Same.but s5)).trans SameBut.upd
    have p4 : H6 p = some (.ins CM dx [("number", .int (n : Int)), ("crate_count", .int (cs.length : Int)), ("heavy", .int (((cs.map (·.heavy)).sum : Nat) : Int)), ("price", .int (((cs.map (·.price)).sum : Nat) : Int))]) := by
      subst e4
      exact upd_same.trans (congrArg (fun q => some (HO.ins CM dx q)) ((put_past (by decide +kernel)).trans (congrArg _ ((put_past (by decide +kernel)).trans (congrArg _ (put_past (by decide +kernel)))))))
    have sm : ∀ c ∈ cs, CMul (c.heavy : Int) (c.copper : Int) ∧ CMul (c.heavy : Int) (c.zinc : Int) := fun c hc => by
      have g := (hG c hc).hi
      exact ⟨.inl ⟨by omega, by omega⟩, .inl ⟨by omega, by omega⟩⟩
    -- copper
    refine lc_ints (i := 2) (j := 3) (R := CrateAt CC) (bs := cs) (fun c => ((c.heavy * c.copper : Nat) : Int)) (crate_mono CC) ?_ (lists H6 b4) hz ?_ ?_
    · rfl
    · exact (fun a c H' Q' hc ⟨dc, ha⟩ q => ⟨_, rfl, a, CC, dc, _, _, rfl, ha, T.cC, T.kH, cF_h c, _, rfl, a, CC, dc, _, _, rfl, ha, T.cC, T.kC, cF_c c, _, _, rfl, rfl, (sm c hc).1, q⟩)
    intro D H7 s7 hD
    refine ⟨D, _, rfl, SqL.of hD, _, rfl, p, CM, dx, _, rfl, s7 _ _ p4, T.cM, T.mC, (by show 4 < 1000; decide), ?_⟩
    rw [cast_sum]
    generalize e5 : upd H7 p _ = H8
    have b5 : SameBut p H H8 := by subst e5; exact (b4.trans (Same.but s7)).trans SameBut.upd
    have p5 : H8 p = some (.ins CM dx [("number", .int (n : Int)), ("crate_count", .int (cs.length : Int)), ("heavy", .int (((cs.map (·.heavy)).sum : Nat) : Int)), ("price", .int (((cs.map (·.price)).sum : Nat) : Int)), ("weighted_copper", .int (((cs.map fun c => c.heavy * c.copper).sum : Nat) : Int))]) := by
      subst e5
      exact upd_same.trans (congrArg (fun q => some (HO.ins CM dx q)) ((put_past (by decide +kernel)).trans (congrArg _ ((put_past (by decide +kernel)).trans (congrArg _ ((put_past (by decide +kernel)).trans (congrArg _ (put_past (by decide +kernel)))))))))
    -- zinc
    refine lc_ints (i := 2) (j := 3) (R := CrateAt CC) (bs := cs) (fun c => ((c.heavy * c.zinc : Nat) : Int)) (crate_mono CC) ?_ (lists H8 b5) hz ?_ ?_
    · rfl
    · exact (fun a c H' Q' hc ⟨dc, ha⟩ q => ⟨_, rfl, a, CC, dc, _, _, rfl, ha, T.cC, T.kH, cF_h c, _, rfl, a, CC, dc, _, _, rfl, ha, T.cC, T.kZ, cF_z c, _, _, rfl, rfl, (sm c hc).2, q⟩)
    intro D H9 s9 hD
    refine ⟨D, _, rfl, SqL.of hD, _, rfl, p, CM, dx, _, rfl, s9 _ _ p5, T.cM, T.mZ, (by show 5 < 1000; decide), ?_⟩
    rw [cast_sum]
    refine k _ ((b5.trans (Same.but s9)).trans SameBut.upd) ⟨dx, ?_⟩
    exact upd_same.trans (congrArg (fun q => some (HO.ins CM dx q)) ((put_past (by decide +kernel)).trans (congrArg _ ((put_past (by decide +kernel)).trans (congrArg _ ((put_past (by decide +kernel)).trans (congrArg _ ((put_past (by decide +kernel)).trans (congrArg _ (put_past (by decide +kernel)))))))))))
theorem scMeltOf : FnScope ["crates", "number", "place", "crate"] ["crates", "number"] (defScope sMeltOf) := ⟨rfl, rfl, rfl, by decide +kernel, rfl, by decide +kernel, by decide +kernel⟩
theorem ok_meltOf {f : Addr} {fd : FuncData} (F : Fun K "melt_of" "melt_of" sMeltOf f fd) (T : Txt K mg CW CC CM CY) (D0 : Kl P w K mg base "Melt" CM 1 ["self", "number", "crates"] (spMelt CM CC)) : FnOk P w K mg base CX0 3 f fd ["crates", "number"] (spMeltOf CM CC) := by
  refine F.ok scMeltOf (fun vs H Q E h => ?_) (fun cdv A outer s H vs Q E hr h => ?_)
  · obtain ⟨l, s, y, rfl, _⟩ := h
    rfl
  · obtain ⟨l, n, y, rfl, ⟨as, hl, h2⟩, G, k⟩ := h
    refine ⟨_, pss_one (ps_ret (pe_kl D0 hr rfl (pa_cons (pv 1) (pa_cons (pe_lc (own := [("place", 2), ("crate", 3)]) (g := gTup K 2 (gCons (gName 2) (gCons (gName 3) gNil))) rfl scMeltOf.nd (pi_enum rfl T.enu (pa_cons (pv 0) pa_nil))
      (blkOk_by (N := ["crates", "number", "place", "crate"]) (sc := defScope sMeltOf) (by decide +kernel))
      (fun _ _ _ _ _ => pg_tup rfl (pgs_cons (pg_name (i := 2) scMeltOf.nd rfl (Or.inl rfl)) (pgs_cons (pg_name (i := 3) scMeltOf.nd rfl (Or.inl rfl)) pgs_nil)))
      (fun _ _ _ _ _ => pts_one (pt_cmp (pc_eqI (pe_op op_and (pe_op op_shr (pv 1) (pv 2)) pe_int) pe_int) rfl)) (fun _ _ _ _ _ => pv 3)) pa_nil)))), ?_⟩
    have hlen : (as.map V.ref).length = y.count := by rw [List.length_map, h2.len]; rfl
    have h8 := G.cnt
    refine ⟨_, rfl, _, rfl, l, _, rfl, SqL.of hl, fun D hD => lc_it (walk_enum (xs := as.map V.ref))
      (fun i H' => ∃ as' : List Addr, Same H H' ∧ H' D = some (.lst (as'.map V.ref)) ∧ Two (CrateAt CC H) as' (picked y n i)) ⟨[], same_upd hD, upd_same, Two.nil⟩ (fun i H' _ ⟨_, s', _, _⟩ => SqL.of (s' _ _ hl)) ?_ ?_⟩
    · rintro i x H1 H2 hi ⟨as', s1, hD1, w1⟩ ⟨t, v1, v2, rfl, nt, rfl, ev1, ev2⟩
      have ev1' : V.int ((i : Nat) : Int) = v1 := Option.some.inj ev1
      subst ev1'
      have hi' : i < as.length := by rw [List.length_map] at hi; exact hi
      obtain ⟨c, hc, hr2⟩ := h2.get (List.getElem?_eq_getElem hi')
      have ev2' : V.ref as[i] = v2 := by
        have ev2 : (as.map V.ref)[i]? = some v2 := ev2
        rw [List.getElem?_map, List.getElem?_eq_getElem hi'] at ev2
        exact Option.some.inj ev2
      subst ev2'
      have ec : y.crate i = c := crate_at hc
      have s2 : Same H1 (upd H1 t (.tup [V.int ((i : Nat) : Int), V.ref as[i]])) := same_upd nt
      refine ⟨t, _, rfl, SqT.of upd_same, rfl, _, _, rfl, _, _, rfl, rfl, rfl, ?_⟩
      refine ⟨_, rfl, _, rfl, _, _, rfl, rfl, Int.natCast_nonneg _, _, _, rfl, rfl, _, _, rfl, rfl, _, rfl, ?_⟩
      have hD2 := s2 _ _ hD1
      refine ite2 (fun eb => ?_) (fun eb => ?_)
      · have eb : n.testBit i = true := (bit_is n i).symm.trans eb
        refine ⟨_, rfl, _, hD2, ?_, as' ++ [as[i]], ?_, ?_, ?_⟩
        · rw [List.length_map, w1.len]
          have k1 := picked_len y n i
          have k2 := h2.len
          exact small1000 (by omega)
        · exact fun b o e => by rw [upd_ne (ne_of_none e hD)]; exact s2 _ _ (s1 _ _ e)
        · rw [upd_same, List.map_append]
          rfl
        · rw [picked_succ, if_pos eb, ec]
          exact w1.snoc hr2
      · have eb : ¬ n.testBit i = true := fun q => eb ((bit_is n i).trans q)
        refine ⟨as', s1.trans s2, hD2, ?_⟩
        rw [picked_succ, if_neg eb, List.append_nil]
        exact w1
    · rintro H1 ⟨as', s1, hD1, w1⟩
      rw [hlen] at w1
      intro x dx nx nd ndx
      refine ⟨x, dx, D, n, picked y n y.count, rfl, upd_same, ?_, picked_good G n, Nat.le_trans (picked_len y n _) h8, fun H2 b2 m2 => ⟨rfl, ?_⟩⟩
      · have s2 : Same H1 (upd (upd H1 dx (.own x)) x (.ins CM dx [])) := fun b o e => by rw [upd_ne (ne_of_none e nx), upd_ne (ne_of_none e nd)]; exact e
        exact ⟨as', s2 _ _ hD1, w1.imp fun a b r => crate_mono CC _ _ _ _ (s1.trans s2) r⟩
      · rw [melOf_picked] at m2
        exact k H2 x (s1.trans (made nx nd b2)) (s1.free nx) m2
end
end Scrap

set_option Elab.async false
set_option maxRecDepth 100000
set_option maxHeartbeats 4000000
/-! What is told of a melt; the least of some melts. -/
namespace Scrap
open PySem PySem.Spec PyProof.Rows L2
/-- a melt of the yard -/
def MelAt (CM : Addr) (y : Sj14.Yard) (H : Hp) (a : Addr) (s : Nat) : Prop := MeltAt CM H a (melOf y s)
theorem mel_mono (CM : Addr) (y : Sj14.Yard) : Mono (MelAt CM y) := fun H H' a s => melt_mono CM H H' a (melOf y s)
/-- a def that picks some of the melts -/
def spPick (CM : Addr) (g : Sj14.Yard → List Nat → List Nat) : Sp := fun vs H Q _ => ∃ (l : Addr) (y : Sj14.Yard) (ss : List Nat), vs = [.ref l] ∧ RefsAt (MelAt CM y) H l ss ∧ ss ≠ [] ∧ ss.length ≤ 1000 ∧
  ∀ (H' : Hp) (p : Addr), Same H H' → H p = none → RefsAt (MelAt CM y) H' p (g y ss) → Q (.ref p) H'
theorem mins_len (lt : Nat → Nat → Bool) (l : List Nat) : (mins lt l).length ≤ l.length := List.length_filter_le _ _
theorem least_filter {f : Nat → Nat} {ss : List Nat} {m : Int} (h1 : m ∈ ss.map fun s => ((f s : Nat) : Int)) (h2 : ∀ z, z ∈ (ss.map fun s => ((f s : Nat) : Int)) → m ≤ z) :
    (ss.filter fun s => decide (((f s : Nat) : Int) = m)) = mins (fun a b => decide (f a < f b)) ss := by
  obtain ⟨s0, hs0, rfl⟩ := List.mem_map.mp h1
  unfold mins
  refine List.filter_congr fun s hs => ?_
  rw [Bool.eq_iff_iff, decide_eq_true_eq, List.all_eq_true]
  constructor
  · intro e t ht
    have k := h2 _ (List.mem_map.mpr ⟨t, ht, rfl⟩)
    rw [Bool.not_eq_true', decide_eq_false_iff_not]
    omega
  · intro h
    have k := h s0 hs0
    rw [Bool.not_eq_true', decide_eq_false_iff_not] at k
    have k2 := h2 _ (List.mem_map.mpr ⟨s, hs, rfl⟩)
    omega
theorem most_filter {f : Nat → Nat} {ss : List Nat} {m : Int} (h1 : m ∈ ss.map fun s => ((f s : Nat) : Int)) (h2 : ∀ z, z ∈ (ss.map fun s => ((f s : Nat) : Int)) → z ≤ m) :
    (ss.filter fun s => decide (((f s : Nat) : Int) = m)) = mins (fun a b => decide (f b < f a)) ss := by
  obtain ⟨s0, hs0, rfl⟩ := List.mem_map.mp h1
  unfold mins
  refine List.filter_congr fun s hs => ?_
  rw [Bool.eq_iff_iff, decide_eq_true_eq, List.all_eq_true]
  constructor
  · intro e t ht
    have k := h2 _ (List.mem_map.mpr ⟨t, ht, rfl⟩)
    rw [Bool.not_eq_true', decide_eq_false_iff_not]
    omega
  · intro h
    have k := h s0 hs0
    rw [Bool.not_eq_true', decide_eq_false_iff_not] at k
    have k2 := h2 _ (List.mem_map.mpr ⟨s, hs, rfl⟩)
    omega
section
variable {P : Program} {w : World} {K : PySem.W.Frag} {mg : Str → Option Value} {base : Heap} {CW CC CM CY : Addr}
theorem scMakeup : FnScope ["melt", "copper", "zinc"] ["melt"] (defScope sMakeup) := ⟨rfl, rfl, rfl, by decide +kernel, rfl, by decide +kernel, by decide +kernel⟩
theorem ok_makeup {f : Addr} {fd : FuncData} (F : Fun K "makeup" "makeup" sMakeup f fd) (T : Txt K mg CW CC CM CY) (DL : Df P w K mg base "in_lowest_terms" 1 ["above", "below"] spLowest) : FnOk P w K mg base CX0 2 f fd ["melt"] (spMakeup CM) := by
  refine F.ok scMakeup (fun vs H Q E h => ?_) (fun cdv A outer s H vs Q E hr h => ?_)
  · obtain ⟨a, m, rfl, _⟩ := h
    rfl
  · obtain ⟨a, m, rfl, ⟨dx, ha⟩, h0, h1, k⟩ := h
    refine ⟨_, pss_cons (ps_set (i := 1) scMakeup.nd rfl (.inl rfl) (pe_df DL hr rfl (pa_cons (pe_fld (pv 0) rfl) (pa_cons (pe_fld (pv 0) rfl) pa_nil))))
      (pss_cons (ps_set (i := 2) scMakeup.nd rfl (.inl rfl) (pe_df DL hr rfl (pa_cons (pe_fld (pv 0) rfl) (pa_cons (pe_fld (pv 0) rfl) pa_nil))))
      (pss_one (ps_ret (pe_op op_cat (pe_op op_cat (pe_lst (pa_cons (pe_fld (pv 0) rfl) pa_nil)) (pv 1)) (pv 2))))), ?_⟩
    refine ⟨_, rfl, a, CM, dx, _, _, rfl, ha, T.cM, T.mC, mF_c m, _, rfl, a, CM, dx, _, _, rfl, ha, T.cM, T.mH, mF_h m, m.copper, m.heavy, rfl, h0, h1, fun H1 p1 s1 n1 e1 => ?_⟩
    have ha1 := s1 _ _ ha
    refine ⟨_, rfl, a, CM, dx, _, _, rfl, ha1, T.cM, T.mZ, mF_z m, _, rfl, a, CM, dx, _, _, rfl, ha1, T.cM, T.mH, mF_h m, m.zinc, m.heavy, rfl, h0, h1, fun H2 p2 s2 n2 e2 => ?_⟩
    have ha2 := s2 _ _ ha1
    have e12 := s2 _ _ e1
    refine ⟨_, rfl, a, CM, dx, _, _, rfl, ha2, T.cM, T.mH, mF_h m, (by show 1 ≤ sizeLine; decide), fun p3 n3 => ?_⟩
    have s3 : Same H2 (upd H2 p3 (.lst [.int m.heavy])) := same_upd n3
    refine ⟨_, rfl, p3, p1, _, _, rfl, rfl, upd_same, s3 _ _ e12, (by show 1 + 2 ≤ sizeLine; decide), fun p4 n4 => ?_⟩
    have s4 := same_upd (o := .lst ([.int m.heavy] ++ (Sj14.ints (Sj14.parts m.copper m.heavy)).map V.int)) n4
    refine ⟨_, rfl, p4, p2, _, _, rfl, rfl, upd_same, s4 _ _ (s3 _ _ e2), (by show 3 + 2 ≤ sizeLine; decide), fun p5 n5 => ?_⟩
    have s5 := same_upd (o := .lst ([.int m.heavy] ++ (Sj14.ints (Sj14.parts m.copper m.heavy)).map V.int ++ (Sj14.ints (Sj14.parts m.zinc m.heavy)).map V.int)) n5
    have sa : Same H _ := (((s1.trans s2).trans s3).trans s4)
    refine k _ p5 (sa.trans s5) (sa.free n5) ?_
    rw [upd_same]
    unfold told5 Sj14.ints
    rw [List.map_append, List.map_append, List.map_append, List.map_append]
    rfl
theorem scDist : FnScope ["melt", "thousandths"] ["melt", "thousandths"] (defScope sDist) := ⟨rfl, rfl, rfl, by decide +kernel, rfl, by decide +kernel, by decide +kernel⟩
theorem ok_dist {f : Addr} {fd : FuncData} (F : Fun K "distance" "distance" sDist f fd) (T : Txt K mg CW CC CM CY) (DL : Df P w K mg base "in_lowest_terms" 1 ["above", "below"] spLowest) : FnOk P w K mg base CX0 2 f fd ["melt", "thousandths"] (spDist CM) := by
  refine F.ok scDist (fun vs H Q E h => ?_) (fun cdv A outer s H vs Q E hr h => ?_)
  · obtain ⟨a, m, k, rfl, _⟩ := h
    rfl
  · obtain ⟨a, m, n, rfl, ⟨dx, ha⟩, h0, h1, hn, k⟩ := h
    refine ⟨_, pss_one (ps_ret (pe_df DL hr rfl (pa_cons (pe_callB call_abs (by rfl) T.abs boot_abs (pa_cons (pe_op op_sub (pe_fld (pv 0) rfl) (pe_op op_mul (pv 1) (pe_fld (pv 0) rfl))) pa_nil)) (pa_cons (pe_fld (pv 0) rfl) pa_nil)))), ?_⟩
    refine ⟨_, rfl, a, CM, dx, _, _, rfl, ha, T.cM, T.mC, mF_c m, _, rfl, _, rfl, a, CM, dx, _, _, rfl, ha, T.cM, T.mH, mF_h m, _, _, rfl, rfl, .inl ⟨by omega, by omega⟩, _, _, rfl, rfl, _, rfl, ?_⟩
    refine ⟨_, rfl, a, CM, dx, _, _, rfl, ha, T.cM, T.mH, mF_h m, offOf m n, m.heavy, ?_, h0, h1, k⟩
    exact congrArg (fun z => [V.int z, V.int (m.heavy : Int)]) (abs_is m.copper n m.heavy)
theorem scLess : FnScope ["fraction", "other"] ["fraction", "other"] (defScope sLess) := ⟨rfl, rfl, rfl, by decide +kernel, rfl, by decide +kernel, by decide +kernel⟩
theorem ok_less {f : Addr} {fd : FuncData} (F : Fun K "is_less" "is_less" sLess f fd) : FnOk P w K mg base CX0 1 f fd ["fraction", "other"] (spLess K) := by
  refine F.ok scLess (fun vs H Q E h => ?_) (fun cdv A outer s H vs Q E hr h => ?_)
  · obtain ⟨f, g, a, b, c, d, rfl, _⟩ := h
    rfl
  · obtain ⟨f, g, a, b, c, d, rfl, hf, hg, hb, hd, k⟩ := h
    refine ⟨_, pss_one (ps_ret (pe_cmpR op_lt (pe_op op_mul (pe_ix ix_list (pv 0) pe_int (fun _ _ => rfl)) (pe_ix ix_list (pv 1) pe_int (fun _ _ => rfl))) (pe_op op_mul (pe_ix ix_list (pv 1) pe_int (fun _ _ => rfl)) (pe_ix ix_list (pv 0) pe_int (fun _ _ => rfl))) (nomark _))), ?_⟩
    refine ⟨_, rfl, f, _, _, _, rfl, rfl, hf, atI_nat (j := 0) rfl, _, rfl, g, _, _, _, rfl, rfl, hg, atI_nat (j := 1) rfl, _, _, rfl, rfl, .inr ⟨by omega, by omega⟩, ?_⟩
    refine ⟨_, rfl, g, _, _, _, rfl, rfl, hg, atI_nat (j := 0) rfl, _, rfl, f, _, _, _, rfl, rfl, hf, atI_nat (j := 1) rfl, _, _, rfl, rfl, .inr ⟨by omega, by omega⟩, _, _, rfl, rfl, ?_⟩
    have e : decide (a * d < c * b) = decide ((a : Int) * (d : Int) < (c : Int) * (b : Int)) := by
      rw [← Int.natCast_mul, ← Int.natCast_mul]
      exact decide_eq_decide.mpr Int.ofNat_lt.symm
    rw [e] at k
    exact k
theorem scPrice : FnScope ["melts", "least", "melt"] ["melts"] (defScope sPrice) := ⟨rfl, rfl, rfl, by decide +kernel, rfl, by decide +kernel, by decide +kernel⟩
theorem ok_price {f : Addr} {fd : FuncData} (F : Fun K "of_least_price" "of_least_price" sPrice f fd) (T : Txt K mg CW CC CM CY) : FnOk P w K mg base CX0 1 f fd ["melts"] (spPick CM fun y ss => mins (ltPrice y) ss) := by
  refine F.ok scPrice (fun vs H Q E h => ?_) (fun cdv A outer s H vs Q E hr h => ?_)
  · obtain ⟨l, y, ss, rfl, _⟩ := h
    rfl
  · obtain ⟨l, y, ss, rfl, hL, hne, hz, k⟩ := h
    refine ⟨_, pss_cons (ps_set (i := 1) scPrice.nd rfl (.inr rfl) (pe_callB (cr_min rfl) (by rfl) T.min boot_min (pa_cons (pe_lc (own := [("melt", 2)]) (g := gName 2) (tt := tYes) (te := tFld K (tVar 2) "price") rfl scPrice.nd (pi_list (pv 0)) (blkOk_by (N := ["melts", "least", "melt"]) (sc := defScope sPrice) (by decide +kernel)) (fun _ _ _ _ _ => pg_name (i := 2) scPrice.nd rfl (Or.inl rfl)) (fun _ _ _ _ _ => pts_nil) (fun _ _ _ _ _ => pe_fld (pv 2) rfl)) pa_nil)))
      (pss_one (ps_ret (pe_lc (own := [("melt", 2)]) (g := gName 2) (tt := tB (tEqI (tFld K (tVar 2) "price") (tVar 1))) (te := tVar 2) rfl scPrice.nd (pi_list (pv 0)) (blkOk_by (N := ["melts", "least", "melt"]) (sc := defScope sPrice) (by decide +kernel)) (fun _ _ _ _ _ => pg_name (i := 2) scPrice.nd rfl (Or.inl rfl)) (fun _ _ _ _ _ => pts_one (pt_cmp (pc_eqI (pe_fld (pv 2) rfl) (pv 1)) rfl)) (fun _ _ _ _ _ => pv 2)))), ?_⟩
    have hz' : ss.length < sizeLine := small1000 hz
    dsimp only [tSeq, tAsg, tCB, tCons, tNil, tRet]
    refine lc_ints (i := 0) (j := 2) (R := MelAt CM y) (bs := ss) (fun s => ((y.price s : Nat) : Int)) (mel_mono CM y) ?_ hL hz' ?_ ?_
    · rfl
    · exact fun a s H' Q' _ ⟨dc, ha⟩ q => ⟨_, rfl, a, CM, dc, _, _, rfl, ha, T.cM, T.mP, mF_p (melOf y s), q⟩
    intro D H1 s1 hD
    refine ⟨D, _, rfl, SqL.of hD, ?_, fun m hm hle => ?_⟩
    · rw [List.length_map]
      exact List.length_pos_iff.mpr hne
    refine lc_if (i := 0) (j := 2) (R := MelAt CM y) (bs := ss) (fun s => decide (((y.price s : Nat) : Int) = m)) (mel_mono CM y) ?_ ?_ (hL.same (mel_mono CM y) s1) hz' ?_ ?_
    · rfl
    · show 2 < 3
      decide
    · intro a s H' Q' _ ⟨dc, ha⟩ _ q
      exact ⟨_, rfl, a, CM, dc, _, _, rfl, ha, T.cM, T.mP, mF_p (melOf y s), _, rfl, _, _, rfl, rfl, _, rfl, q H' (Same.refl _)⟩
    · intro D2 H2 s2 n2 r2
      rw [least_filter hm hle] at r2
      exact k H2 D2 (s1.trans s2) (s1.free n2) r2
end
end Scrap

set_option Elab.async false
set_option maxRecDepth 100000
set_option maxHeartbeats 4000000
/-! The cheapest, the nearest, those with the most; all that are as wanted. -/
namespace Scrap
open PySem PySem.Spec PyProof.Rows L2
def pair (a b : Int) : PyData := .list [.int a, .int b]
theorem pair_shaped (a b : Int) : SeqAt.shaped (pair a b) = true := rfl
theorem pair_eqv (a b c d : Int) : PyData.eqv (pair a b) (pair c d) = decide (a = c ∧ b = d) := by
  show PyData.eqvAll [.int a, .int b] [.int c, .int d] = _
  simp only [PyData.eqvAll, PyData.eqv, Bool.and_true]
  rw [Bool.eq_iff_iff, Bool.and_eq_true, beq_iff_eq, beq_iff_eq, decide_eq_true_eq]
theorem pair_at {K : PySem.W.Frag} {H : Hp} {p : Addr} {a b : Int} (h : H p = some (.lst [.int a, .int b])) : Dp K H (.ref p) (pair a b) :=
  .lst (SqL.of h) (.cons (.int a) (.cons (.int b) .nil))
/-- how far a melt is: its list -/
def farOf (y : Sj14.Yard) (k s : Nat) : List V := [.int ((y.off k s / Nat.gcd (y.off k s) (y.heavy s) : Nat) : Int), .int ((y.heavy s / Nat.gcd (y.off k s) (y.heavy s) : Nat) : Int)]
theorem far_is (y : Sj14.Yard) (k s : Nat) : (Sj14.ints (Sj14.parts (offOf (melOf y s) k) (melOf y s).heavy)).map V.int = farOf y k s := rfl
theorem far_eq {y : Sj14.Yard} {k s t : Nat} (hs : 0 < y.heavy s) (ht : 0 < y.heavy t) :
    ((y.off k s / Nat.gcd (y.off k s) (y.heavy s) : Nat) : Int) = ((y.off k t / Nat.gcd (y.off k t) (y.heavy t) : Nat) : Int) ∧ ((y.heavy s / Nat.gcd (y.off k s) (y.heavy s) : Nat) : Int) = ((y.heavy t / Nat.gcd (y.off k t) (y.heavy t) : Nat) : Int) ↔
      ltNear y k s t = false ∧ ltNear y k t s = false := by
  have h := parts_eq (a := y.off k s) (c := y.off k t) hs ht
  have e : (Sj14.parts (y.off k s) (y.heavy s) = Sj14.parts (y.off k t) (y.heavy t)) ↔ (y.off k s / Nat.gcd (y.off k s) (y.heavy s) = y.off k t / Nat.gcd (y.off k t) (y.heavy t) ∧ y.heavy s / Nat.gcd (y.off k s) (y.heavy s) = y.heavy t / Nat.gcd (y.off k t) (y.heavy t)) := by
    unfold Sj14.parts
    simp
  unfold ltNear Sj14.nearer
  rw [decide_eq_false_iff_not, decide_eq_false_iff_not]
  constructor
  · rintro ⟨q1, q2⟩
    have := h.mp (e.mpr ⟨Int.ofNat_inj.mp q1, Int.ofNat_inj.mp q2⟩)
    omega
  · rintro ⟨q1, q2⟩
    obtain ⟨r1, r2⟩ := e.mp (h.mpr (by omega))
    exact ⟨congrArg _ r1, congrArg _ r2⟩
theorem far_lt {y : Sj14.Yard} {k s t : Nat} (hs : 0 < y.heavy s) (ht : 0 < y.heavy t) :
    decide ((y.off k s / Nat.gcd (y.off k s) (y.heavy s)) * (y.heavy t / Nat.gcd (y.off k t) (y.heavy t)) < (y.off k t / Nat.gcd (y.off k t) (y.heavy t)) * (y.heavy s / Nat.gcd (y.off k s) (y.heavy s))) = ltNear y k s t := by
  unfold ltNear Sj14.nearer
  exact decide_eq_decide.mpr (parts_lt hs ht)
/-- by one that none is nearer than: those that are as near -/
theorem near_filter {y : Sj14.Yard} {k s0 : Nat} {ss : List Nat} (hp : ∀ s ∈ ss, 0 < y.heavy s) (h0 : s0 ∈ ss) (hm : ∀ t ∈ ss, ltNear y k t s0 = false) :
    (ss.filter fun s => !ltNear y k s0 s) = mins (ltNear y k) ss := by
  have w := wo_near y k
  unfold mins
  refine List.filter_congr fun s hs => ?_
  rw [Bool.eq_iff_iff, List.all_eq_true]
  simp only [Bool.not_eq_true']
  constructor
  · intro e t ht
    exact w.neg t s0 s (hp t ht) (hp s0 h0) (hp s hs) (hm t ht) e
  · intro h
    exact h s0 h0
def spNearest (CM : Addr) : Sp := fun vs H Q _ => ∃ (l : Addr) (y : Sj14.Yard) (ss : List Nat) (k : Nat), vs = [.ref l, .int (k : Int)] ∧ RefsAt (MelAt CM y) H l ss ∧ ss ≠ [] ∧ ss.length ≤ 1000 ∧ k ≤ 1000 ∧ (∀ s ∈ ss, 0 < y.heavy s ∧ y.heavy s ≤ 1600) ∧
  ∀ (H' : Hp) (p : Addr), Same H H' → H p = none → RefsAt (MelAt CM y) H' p (nearL y k ss) → Q (.ref p) H'
def spMelts (CC CW CM : Addr) : Sp := fun vs H Q _ => ∃ (l a : Addr) (y : Sj14.Yard), vs = [.ref l, .ref a] ∧ RefsAt (CrateAt CC) H l y.crates ∧ WantedAt CW H a y.wanted ∧ Good y ∧
  ∀ (H' : Hp) (p : Addr), Same H H' → H p = none → RefsAt (MelAt CM y) H' p y.melts → Q (.ref p) H'
section
variable {P : Program} {w : World} {K : PySem.W.Frag} {mg : Str → Option Value} {base : Heap} {CW CC CM CY : Addr}
theorem scMost : FnScope ["melts", "highest", "melt"] ["melts"] (defScope sMost) := ⟨rfl, rfl, rfl, by decide +kernel, rfl, by decide +kernel, by decide +kernel⟩
theorem ok_most {f : Addr} {fd : FuncData} (F : Fun K "with_most_crates" "with_most_crates" sMost f fd) (T : Txt K mg CW CC CM CY) : FnOk P w K mg base CX0 1 f fd ["melts"] (spPick CM mostL) := by
  refine F.ok scMost (fun vs H Q E h => ?_) (fun cdv A outer s H vs Q E hr h => ?_)
  · obtain ⟨l, y, ss, rfl, _⟩ := h
    rfl
  · obtain ⟨l, y, ss, rfl, hL, hne, hz, k⟩ := h
    refine ⟨_, pss_cons (ps_set (i := 1) scMost.nd rfl (.inr rfl) (pe_callB (cr_max rfl) (by rfl) T.max boot_max (pa_cons (pe_lc (own := [("melt", 2)]) (g := gName 2) (tt := tYes) (te := tFld K (tVar 2) "crate_count") rfl scMost.nd (pi_list (pv 0)) (blkOk_by (N := ["melts", "highest", "melt"]) (sc := defScope sMost) (by decide +kernel)) (fun _ _ _ _ _ => pg_name (i := 2) scMost.nd rfl (Or.inl rfl)) (fun _ _ _ _ _ => pts_nil) (fun _ _ _ _ _ => pe_fld (pv 2) rfl)) pa_nil)))
      (pss_one (ps_ret (pe_lc (own := [("melt", 2)]) (g := gName 2) (tt := tB (tEqI (tFld K (tVar 2) "crate_count") (tVar 1))) (te := tVar 2) rfl scMost.nd (pi_list (pv 0)) (blkOk_by (N := ["melts", "highest", "melt"]) (sc := defScope sMost) (by decide +kernel)) (fun _ _ _ _ _ => pg_name (i := 2) scMost.nd rfl (Or.inl rfl)) (fun _ _ _ _ _ => pts_one (pt_cmp (pc_eqI (pe_fld (pv 2) rfl) (pv 1)) rfl)) (fun _ _ _ _ _ => pv 2)))), ?_⟩
    have hz' : ss.length < sizeLine := small1000 hz
    dsimp only [tSeq, tAsg, tCB, tCons, tNil, tRet]
    refine lc_ints (i := 0) (j := 2) (R := MelAt CM y) (bs := ss) (fun s => ((y.size s : Nat) : Int)) (mel_mono CM y) ?_ hL hz' ?_ ?_
    · rfl
    · exact fun a s H' Q' _ ⟨dc, ha⟩ q => ⟨_, rfl, a, CM, dc, _, _, rfl, ha, T.cM, T.mK, mF_k (melOf y s), q⟩
    intro D H1 s1 hD
    refine ⟨D, _, rfl, SqL.of hD, ?_, fun m hm hle => ?_⟩
    · rw [List.length_map]
      exact List.length_pos_iff.mpr hne
    refine lc_if (i := 0) (j := 2) (R := MelAt CM y) (bs := ss) (fun s => decide (((y.size s : Nat) : Int) = m)) (mel_mono CM y) ?_ ?_ (hL.same (mel_mono CM y) s1) hz' ?_ ?_
    · rfl
    · show 2 < 3
      decide
    · intro a s H' Q' _ ⟨dc, ha⟩ _ q
      exact ⟨_, rfl, a, CM, dc, _, _, rfl, ha, T.cM, T.mK, mF_k (melOf y s), _, rfl, _, _, rfl, rfl, _, rfl, q H' (Same.refl _)⟩
    · intro D2 H2 s2 n2 r2
      rw [most_filter hm hle] at r2
      exact k H2 D2 (s1.trans s2) (s1.free n2) r2
theorem scCheapest : FnScope ["melts", "found", "heaviest", "melt"] ["melts"] (defScope sCheapest) := ⟨rfl, rfl, rfl, by decide +kernel, rfl, by decide +kernel, by decide +kernel⟩
theorem ok_cheapest {f : Addr} {fd : FuncData} (F : Fun K "cheapest" "cheapest" sCheapest f fd) (T : Txt K mg CW CC CM CY) (DP : Df P w K mg base "of_least_price" 1 ["melts"] (spPick CM fun y ss => mins (ltPrice y) ss)) : FnOk P w K mg base CX0 2 f fd ["melts"] (spPick CM cheapL) := by
  refine F.ok scCheapest (fun vs H Q E h => ?_) (fun cdv A outer s H vs Q E hr h => ?_)
  · obtain ⟨l, y, ss, rfl, _⟩ := h
    rfl
  · obtain ⟨l, y, ss, rfl, hL, hne, hz, k⟩ := h
    refine ⟨_, pss_cons (ps_set (i := 1) scCheapest.nd rfl (.inl rfl) (pe_df DP hr rfl (pa_cons (pv 0) pa_nil)))
      (pss_cons (ps_set (i := 2) scCheapest.nd rfl (.inr rfl) (pe_callB (cr_max rfl) (by rfl) T.max boot_max (pa_cons (pe_lc (own := [("melt", 3)]) (g := gName 3) (tt := tYes) (te := tFld K (tVar 3) "heavy") rfl scCheapest.nd (pi_list (pv 1)) (blkOk_by (N := ["melts", "found", "heaviest", "melt"]) (sc := defScope sCheapest) (by decide +kernel)) (fun _ _ _ _ _ => pg_name (i := 3) scCheapest.nd rfl (Or.inl rfl)) (fun _ _ _ _ _ => pts_nil) (fun _ _ _ _ _ => pe_fld (pv 3) rfl)) pa_nil)))
      (pss_one (ps_ret (pe_lc (own := [("melt", 3)]) (g := gName 3) (tt := tB (tEqI (tFld K (tVar 3) "heavy") (tVar 2))) (te := tVar 3) rfl scCheapest.nd (pi_list (pv 1)) (blkOk_by (N := ["melts", "found", "heaviest", "melt"]) (sc := defScope sCheapest) (by decide +kernel)) (fun _ _ _ _ _ => pg_name (i := 3) scCheapest.nd rfl (Or.inl rfl)) (fun _ _ _ _ _ => pts_one (pt_cmp (pc_eqI (pe_fld (pv 3) rfl) (pv 2)) rfl)) (fun _ _ _ _ _ => pv 3))))), ?_⟩
    refine ⟨_, rfl, l, y, ss, rfl, hL, hne, hz, fun H0 l2 s0 n0 r0 => ?_⟩
    have hne2 : mins (ltPrice y) ss ≠ [] := mins_ne (wo_price y) (fun _ _ => trivial) hne
    have hz2 : (mins (ltPrice y) ss).length < sizeLine := small1000 (Nat.le_trans (mins_len _ _) hz)
    dsimp only [gName, tSeq, tAsg, tCB, tCons, tNil, tRet]
    refine lc_ints (i := 1) (j := 3) (R := MelAt CM y) (bs := mins (ltPrice y) ss) (fun s => ((y.heavy s : Nat) : Int)) (mel_mono CM y) ?_ r0 hz2 ?_ ?_
    · rfl
    · exact fun a s H' Q' _ ⟨dc, ha⟩ q => ⟨_, rfl, a, CM, dc, _, _, rfl, ha, T.cM, T.mH, mF_h (melOf y s), q⟩
    intro D H1 s1 hD
    refine ⟨D, _, rfl, SqL.of hD, ?_, fun m hm hle => ?_⟩
    · rw [List.length_map]
      exact List.length_pos_iff.mpr hne2
    refine lc_if (i := 1) (j := 3) (R := MelAt CM y) (bs := mins (ltPrice y) ss) (fun s => decide (((y.heavy s : Nat) : Int) = m)) (mel_mono CM y) ?_ ?_ (r0.same (mel_mono CM y) s1) hz2 ?_ ?_
    · rfl
    · show 3 < 4
      decide
    · intro a s H' Q' _ ⟨dc, ha⟩ _ q
      exact ⟨_, rfl, a, CM, dc, _, _, rfl, ha, T.cM, T.mH, mF_h (melOf y s), _, rfl, _, _, rfl, rfl, _, rfl, q H' (Same.refl _)⟩
    · intro D2 H2 s2 n2 r2
      rw [most_filter hm hle] at r2
      exact k H2 D2 ((s0.trans s1).trans s2) ((s0.trans s1).free n2) r2
theorem scNearest : FnScope ["melts", "thousandths", "least", "melt", "apart"] ["melts", "thousandths"] (defScope sNearest) := ⟨rfl, rfl, rfl, by decide +kernel, rfl, by decide +kernel, by decide +kernel⟩
theorem ok_nearest {f : Addr} {fd : FuncData} (F : Fun K "nearest" "nearest" sNearest f fd) (_T : Txt K mg CW CC CM CY) (DP : Df P w K mg base "of_least_price" 1 ["melts"] (spPick CM fun y ss => mins (ltPrice y) ss))
    (DD : Df P w K mg base "distance" 2 ["melt", "thousandths"] (spDist CM)) (DI : Df P w K mg base "is_less" 1 ["fraction", "other"] (spLess K)) : FnOk P w K mg base CX0 3 f fd ["melts", "thousandths"] (spNearest CM) := by
  refine F.ok scNearest (fun vs H Q E h => ?_) (fun cdv A outer s H vs Q E hr h => ?_)
  · obtain ⟨l, y, ss, k, rfl, _⟩ := h
    rfl
  · obtain ⟨l, y, ss, n, rfl, hL, hne, hz, hn, hp, k⟩ := h
    have hr1 : Room 1 _ := hr.mono (by decide)
    refine ⟨_, pss_cons (ps_set (i := 2) scNearest.nd rfl (.inr rfl) (pe_df DD hr rfl (pa_cons (pe_ix ix_list (pv 0) pe_int (fun _ _ => rfl)) (pa_cons (pv 1) pa_nil))))
      (pss_cons (ps_for PassesOwn.never rfl (pi_list (pv 0)) (pg_name (i := 3) scNearest.nd rfl (Or.inl rfl))
        (pss_cons (ps_set (i := 4) scNearest.nd rfl (.inl rfl) (pe_df DD hr rfl (pa_cons (pv 3) (pa_cons (pv 1) pa_nil))))
        (pss_one (ps_if (pt_val (pe_df DI hr1 rfl (pa_cons (pv 4) (pa_cons (pv 2) pa_nil)))) (pss_one (ps_set (i := 2) scNearest.nd rfl (.inr rfl) (pv 4))) pss_nil))))
      (pss_one (ps_ret (pe_df DP hr1 rfl (pa_cons (pe_lc (own := [("melt", 3)]) (g := gName 3) (tt := tTest (tOp (rEqD K) (tCall (spDist CM) [] E0 (tCons (tVar 3) (tCons (tVar 1) tNil))) (tVar 2))) (te := tVar 3) rfl scNearest.nd (pi_list (pv 0)) (blkOk_by (N := ["melts", "thousandths", "least", "melt", "apart"]) (sc := defScope sNearest) (by decide +kernel)) (fun _ _ _ _ _ => pg_name (i := 3) scNearest.nd rfl (Or.inl rfl))
        (fun _ _ _ _ _ => pts_one (pt_cmpR (op_eqD hr.units) (pe_df DD hr rfl (pa_cons (pv 3) (pa_cons (pv 1) pa_nil))) (pv 2) (nomark _))) (fun _ _ _ _ _ => pv 3)) pa_nil))))), ?_⟩
    obtain ⟨as, hl, h2⟩ := hL
    have hz' : ss.length < sizeLine := small1000 hz
    have w1 := wo_near y n
    have hpos : ∀ s ∈ ss, 0 < y.heavy s := fun s hs => (hp s hs).1
    obtain ⟨s00, hs00⟩ : ∃ s, ss[0]? = some s := ⟨_, List.getElem?_eq_getElem (List.length_pos_iff.mpr hne)⟩
    obtain ⟨a0, ha0, r0⟩ := h2.getR hs00
    have ms00 : s00 ∈ ss := List.mem_of_getElem? hs00
    have bd : ∀ s ∈ ss, y.heavy s < 1073741824 := fun s hs => by have := (hp s hs).2; omega
    have bq : ∀ s ∈ ss, y.heavy s / Nat.gcd (y.off n s) (y.heavy s) < 1073741824 := fun s hs => Nat.lt_of_le_of_lt (Nat.div_le_self _ _) (bd s hs)
    -- least = distance(melts[0], thousandths)
    refine ⟨_, rfl, l, _, _, _, rfl, rfl, SqL.of hl, atI_nat (j := 0) (v := V.ref a0) (by rw [List.getElem?_map, ha0]; rfl), _, rfl, a0, melOf y s00, n, rfl, r0, hpos _ ms00, bd _ ms00, (by omega), fun H1 p1 s1 n1 e1 => ?_⟩
    -- for melt in melts
    refine ⟨_, rfl, l, rfl, ⟨_, SqL.of (s1 _ _ hl)⟩, for_list (K := K) (a := l) (xs := as.map V.ref) (fun i σ H' => ∃ (s0 : Nat) (p : Addr) (v3 v4 : Option V), σ = [some (.ref l), some (.int (n : Int)), some (.ref p), v3, v4] ∧ Same H H' ∧ H' p = some (.lst (farOf y n s0)) ∧ s0 ∈ ss ∧ ∀ t ∈ ss.take i, ltNear y n t s0 = false)
      ⟨s00, p1, none, none, rfl, s1, e1, ms00, fun t ht => by simp at ht⟩ (fun i σ H' _ ⟨_, _, _, _, _, s', _⟩ => SqL.of (s' _ _ hl)) ?_ ?_⟩
    · rintro i x σ H2 hi ⟨s0, p, v3, v4, rfl, s2, hp0, m0, hm⟩
      obtain ⟨a, ha, rfl⟩ : ∃ a, as[i]? = some a ∧ x = V.ref a := by
        rw [List.getElem?_map] at hi
        cases e : as[i]? with
        | none =>
          rw [e] at hi
          cases hi
        | some a =>
          rw [e] at hi
          exact ⟨a, rfl, (Option.some.inj hi).symm⟩
      obtain ⟨t, ht, rt⟩ := h2.get ha
      have mt : t ∈ ss := List.mem_of_getElem? ht
      have tk : ss.take (i + 1) = ss.take i ++ [t] := by
        rw [List.take_add_one, ht]
        rfl
      refine ⟨_, rfl, _, rfl, a, melOf y t, n, rfl, melt_mono CM _ _ _ _ s2 rt, hpos _ mt, bd _ mt, (by omega), fun H3 p3 s3 n3 e3 => ?_⟩
      have e3 : H3 p3 = some (.lst (farOf y n t)) := e3
      refine ⟨_, rfl, _, rfl, p3, p, _, _, _, _, rfl, SqL.of e3, SqL.of (s3 _ _ hp0), bq _ mt, bq _ m0, _, rfl, ite2 (fun e => ?_) (fun e => ?_)⟩
      · have e : ltNear y n t s0 = true := (far_lt (hpos _ mt) (hpos _ m0)).symm.trans e
        refine ⟨_, rfl, t, p3, _, _, rfl, s2.trans s3, e3, mt, fun u hu => ?_⟩
        rw [tk] at hu
        rcases List.mem_append.mp hu with hu | hu
        · have mu : u ∈ ss := List.mem_of_mem_take hu
          cases q : ltNear y n u t with
          | false => rfl
          | true =>
            have := w1.trans (hpos _ mu) (hpos _ mt) (hpos _ m0) q e
            rw [hm u hu] at this
            cases this
        · rw [List.mem_singleton] at hu
          subst hu
          exact w1.irr (hpos _ mt)
      · have e : ltNear y n t s0 = false := Bool.eq_false_iff.mpr fun q => e ((far_lt (hpos _ mt) (hpos _ m0)).trans q)
        refine ⟨s0, p, _, _, rfl, s2.trans s3, s3 _ _ hp0, m0, fun u hu => ?_⟩
        rw [tk] at hu
        rcases List.mem_append.mp hu with hu | hu
        · exact hm u hu
        · rw [List.mem_singleton] at hu
          subst hu
          exact e
    · rintro σ H2 ⟨s0, p, v3, v4, rfl, s2, hp0, m0, hm⟩
      rw [List.length_map, h2.len, List.take_length] at hm
      have hL2 : RefsAt (MelAt CM y) H2 l ss := ⟨as, s2 _ _ hl, h2.imp fun a b r => mel_mono CM y _ _ _ _ s2 r⟩
      dsimp only [tRet, tCall, tCons, tNil]
      refine lc_if (i := 0) (j := 3) (R := MelAt CM y) (bs := ss) (fun s => !ltNear y n s0 s) (mel_mono CM y) ?_ ?_ hL2 hz' ?_ ?_
      · rfl
      · show 3 < 5
        decide
      · intro a t H' Q' mt ha s' q
        refine ⟨_, rfl, _, rfl, a, melOf y t, n, rfl, ha, hpos _ mt, bd _ mt, (by omega), fun H3 p3 s3 n3 e3 => ?_⟩
        have e3 : H3 p3 = some (.lst (farOf y n t)) := e3
        refine ⟨_, rfl, _, _, pair_at e3, pair_at (s3 _ _ (s' _ _ hp0)), pair_shaped _ _, pair_shaped _ _, _, rfl, ?_⟩
        rw [pair_eqv]
        have eq1 : (!ltNear y n s0 t) = decide (((y.off n t / Nat.gcd (y.off n t) (y.heavy t) : Nat) : Int) = ((y.off n s0 / Nat.gcd (y.off n s0) (y.heavy s0) : Nat) : Int) ∧ ((y.heavy t / Nat.gcd (y.off n t) (y.heavy t) : Nat) : Int) = ((y.heavy s0 / Nat.gcd (y.off n s0) (y.heavy s0) : Nat) : Int)) := by
          rw [Bool.eq_iff_iff, decide_eq_true_eq, far_eq (hpos _ mt) (hpos _ m0), Bool.not_eq_true']
          exact ⟨fun z => ⟨hm t mt, z⟩, fun z => z.2⟩
        have q3 := q H3 s3
        rw [eq1] at q3
        exact q3
      · intro D H3 s3 n3 r3
        rw [near_filter hpos m0 hm] at r3
        refine ⟨D, y, mins (ltNear y n) ss, rfl, r3, mins_ne w1 hpos hne, Nat.le_trans (mins_len _ _) hz, fun H4 p4 s4 n4 r4 => ?_⟩
        exact k H4 p4 ((s2.trans s3).trans s4) ((s2.trans s3).free n4) r4
theorem scMelts : FnScope ["crates", "wanted", "found", "number", "melt"] ["crates", "wanted"] (defScope sMelts) := ⟨rfl, rfl, rfl, by decide +kernel, rfl, by decide +kernel, by decide +kernel⟩
theorem ok_melts {f : Addr} {fd : FuncData} (F : Fun K "melts_as_wanted" "melts_as_wanted" sMelts f fd) (DI : Df P w K mg base "is_melt" 1 ["crates", "number"] (spIsMelt K))
    (DM : Df P w K mg base "melt_of" 3 ["crates", "number"] (spMeltOf CM CC)) (DW : Df P w K mg base "wrong_with" 2 ["melt", "wanted"] (spWrong CM CW)) : FnOk P w K mg base CX0 4 f fd ["crates", "wanted"] (spMelts CC CW CM) := by
  refine F.ok scMelts (fun vs H Q E h => ?_) (fun cdv A outer s H vs Q E hr h => ?_)
  · obtain ⟨l, a, y, rfl, _⟩ := h
    rfl
  · obtain ⟨l, a, y, rfl, hL, hW, G, k⟩ := h
    have hr1 : Room 1 _ := hr.mono (by decide)
    have hr2 : Room 2 _ := hr.mono (by decide)
    refine ⟨_, pss_cons (ps_set (i := 2) scMelts.nd rfl (.inl rfl) (pe_lst pa_nil))
      (pss_cons (ps_set (i := 3) scMelts.nd rfl (.inl rfl) pe_int)
      (pss_cons (ps_while PassesOwn.never (pt_val (pe_df DI hr1 rfl (pa_cons (pv 0) (pa_cons (pv 3) pa_nil))))
        (pss_cons (ps_set (i := 4) scMelts.nd rfl (.inl rfl) (pe_df DM hr rfl (pa_cons (pv 0) (pa_cons (pv 3) pa_nil))))
        (pss_cons (ps_if (pt_cmp (pc_eqI (pe_df DW hr2 rfl (pa_cons (pv 4) (pa_cons (pv 1) pa_nil))) pe_int) rfl)
          (pss_one (ps_expr (pe_bm PySem.F.plainAttrs_list PySem.F.slot_list_append PySem.F.type_list_append mt_append (pv 2) (pa_cons (pv 4) pa_nil)))) pss_nil)
        (pss_one (ps_aug (i := 3) scMelts.nd rfl (.inl rfl) pe_int ip_add)))))
      (pss_one (ps_ret (pv 2))))), ?_⟩
    have hpc := pow_count G
    -- found = []; number = 1
    refine ⟨Nat.zero_le _, fun fo nf => ?_⟩
    have sf : Same H (upd H fo (.lst [])) := same_upd nf
    refine ⟨fun m σ H' => ∃ (n : Nat) (v : Option V) (as' : List Addr), σ = [some (.ref l), some (.ref a), some (.ref fo), some (.int (n : Int)), v] ∧ 1 ≤ n ∧ n + m = 2 ^ y.count ∧ Same H H' ∧ H' fo = some (.lst (as'.map V.ref)) ∧ Two (MelAt CM y H') as' (upto y n),
      ⟨2 ^ y.count - 1, 1, none, [], rfl, Nat.le_refl _, ?_, sf, upd_same, ?_⟩, ?_⟩
    · have : 0 < 2 ^ y.count := Nat.pow_pos (by decide)
      omega
    · rw [upto_one]
      exact Two.nil
    rintro m σ H1 ⟨n, v, as', rfl, hn1, hnm, s1, hf1, w1⟩
    obtain ⟨as, hl1, w2⟩ := hL.same (crate_mono CC) s1
    have hlen : (as.map V.ref).length = y.count := by rw [List.length_map, w2.len]; rfl
    refine ⟨_, rfl, _, rfl, l, as.map V.ref, n, rfl, SqL.of hl1, _, rfl, ite2 (fun e => ?_) (fun e => ?_)⟩
    · rw [hlen, Bool.and_eq_true, decide_eq_true_eq, decide_eq_true_eq] at e
      have hlt := e.2
      refine ⟨fun σ' H' => ∃ (v : Option V) (as' : List Addr), σ' = [some (.ref l), some (.ref a), some (.ref fo), some (.int ((n + 1 : Nat) : Int)), v] ∧ Same H H' ∧ H' fo = some (.lst (as'.map V.ref)) ∧ Two (MelAt CM y H') as' (upto y (n + 1)), ?_, ?_⟩
      · rintro σ' H' ⟨v', as2, rfl, s', hf', w'⟩
        exact ⟨m - 1, by omega, n + 1, v', as2, rfl, by omega, by omega, s', hf', w'⟩
      · -- melt = melt_of(crates, number)
        refine ⟨_, rfl, _, rfl, l, n, y, rfl, ⟨as, hl1, w2⟩, G, fun H2 p2 s2 n2 m2 => ?_⟩
        have hpos := heavy_pos G n hn1 hlt
        refine ⟨_, rfl, _, rfl, p2, a, melOf y n, y.wanted, rfl, m2, hW.same (s1.trans s2), G.w, _, _, rfl, rfl, _, rfl, ite2 (fun e2 => ?_) (fun e2 => ?_)⟩
        · have hr0 : y.wrong n = 0 := by
            have q : wrongI (y.heavy n) (y.copper n) (y.zinc n) y.wanted = 0 := of_decide_eq_true e2
            rw [wrong_eq hpos] at q
            omega
          have hright : y.right n = true := by rw [right_at hlt, hr0]; rfl
          refine ⟨_, rfl, .inl ⟨rfl, _, SqL.of (s2 _ _ hf1)⟩, _, rfl, fo, _, _, rfl, rfl, s2 _ _ hf1, ?_, ?_⟩
          · rw [List.length_map, w1.len]
            have := upto_len y n
            exact small1000 (by omega)
          · refine ⟨_, rfl, _, _, rfl, rfl, ?_⟩
            have s3 : SameBut fo H2 (upd H2 fo (.lst (as'.map V.ref ++ [V.ref p2]))) := SameBut.upd
            have far : ∀ b s, MelAt CM y H2 b s → MelAt CM y (upd H2 fo (.lst (as'.map V.ref ++ [V.ref p2]))) b s := fun b s ⟨d, z⟩ => ⟨d, s3 _ _ z (ne_of z (s2 _ _ hf1) (by intro q; cases q))⟩
            refine ⟨some (.ref p2), as' ++ [p2], rfl, fun b o q => ?_, ?_, ?_⟩
            · rw [upd_ne (ne_of_none q nf)]
              exact s2 _ _ (s1 _ _ q)
            · rw [upd_same, List.map_append]
              rfl
            · rw [upto_succ, if_pos hright]
              exact (w1.imp fun b s r => far b s (mel_mono CM y _ _ _ _ s2 r)).snoc (far p2 n m2)
        · have hright : y.right n = false := by
            rw [right_at hlt]
            refine beq_eq_false_iff_ne.mpr fun q => e2 ?_
            refine decide_eq_true ?_
            show wrongI (y.heavy n) (y.copper n) (y.zinc n) y.wanted = 0
            rw [wrong_eq hpos, q]
            rfl
          refine ⟨_, rfl, _, _, rfl, rfl, ?_⟩
          refine ⟨some (.ref p2), as', rfl, s1.trans s2, s2 _ _ hf1, ?_⟩
          rw [upto_succ, hright, if_neg Bool.false_ne_true, List.append_nil]
          exact w1.imp fun b s r => mel_mono CM y _ _ _ _ s2 r
    · rw [hlen] at e
      have hn2 : n = 2 ^ y.count := by
        have e' : ¬ (1 ≤ n ∧ n < 2 ^ y.count) := fun q => e (by rw [Bool.and_eq_true, decide_eq_true_eq, decide_eq_true_eq]; exact q)
        omega
      rw [hn2, upto_all] at w1
      exact ⟨_, rfl, k H1 fo s1 nf ⟨as', hf1, w1⟩⟩
end
end Scrap

set_option Elab.async false
set_option maxRecDepth 100000
set_option maxHeartbeats 4000000
/-! The yard: how it lies, its methods. -/
namespace Scrap
open PySem PySem.Spec PyProof.Rows L2
def yF (wa lc : Addr) : List (Str × V) := [("wanted", .ref wa), ("crates", .ref lc)]
theorem yF_w (wa lc : Addr) : (yF wa lc).lookup ("wanted" : Str) = some (.ref wa) := lk_here
theorem yF_c (wa lc : Addr) : (yF wa lc).lookup ("crates" : Str) = some (.ref lc) := (lk_past (by decide +kernel)).trans lk_here
theorem yF_no (wa lc : Addr) {m : Str} (h1 : (m == ("wanted" : Str)) = false) (h2 : (m == ("crates" : Str)) = false) : (yF wa lc).lookup m = none := (lk_past h1).trans ((lk_past h2).trans rfl)
/-- a yard stands at a, its list of crates at lc -/
structure YardAt (CY CW CC : Addr) (H : Hp) (a lc : Addr) (y : Sj14.Yard) : Prop where
  ex : ∃ dx wa, H a = some (.ins CY dx (yF wa lc)) ∧ WantedAt CW H wa y.wanted ∧ RefsAt (CrateAt CC) H lc y.crates
theorem YardAt.same {CY CW CC a lc : Addr} {H H' : Hp} {y : Sj14.Yard} (h : YardAt CY CW CC H a lc y) (s : Same H H') : YardAt CY CW CC H' a lc y := by
  obtain ⟨dx, wa, h1, h2, h3⟩ := h.ex
  exact ⟨dx, wa, s _ _ h1, h2.same s, h3.same (crate_mono CC) s⟩
/-- all but the yard and its list -/
def Past (a lc : Addr) (H H' : Hp) : Prop := ∀ b o, H b = some o → b ≠ a → b ≠ lc → H' b = some o
theorem Same.past {a lc : Addr} {H H' : Hp} (s : Same H H') : Past a lc H H' := fun b o e _ _ => s b o e
theorem Past.trans {a lc : Addr} {H H1 H2 : Hp} (h : Past a lc H H1) (k : Past a lc H1 H2) : Past a lc H H2 := fun b o e x y => k b o (h b o e x y) x y
/-- a call is answered: a new list, the yard behind it -/
def Done (CY CW CC : Addr) (H : Hp) (a lc : Addr) (r : Sj14.Yard × Sj14.Ans) (Q : VK) : Prop := ∀ (H' : Hp) (p lc' : Addr), Past a lc H H' → (lc' = lc ∨ H lc' = none) → H p = none →
  H' p = some (.lst ((ansOf r).map V.int)) → YardAt CY CW CC H' a lc' r.1 → Q (.ref p) H'
theorem Done.stay {CY CW CC : Addr} {H : Hp} {a lc : Addr} {r : Sj14.Yard × Sj14.Ans} {Q : VK} {y : Sj14.Yard} (d : Done CY CW CC H a lc r Q) (hy : YardAt CY CW CC H a lc y) (er : r.1 = y) {H1 : Hp} {p : Addr} {o : HO} (s : Same H H1) (np : H1 p = none)
    (h : upd H1 p o p = some (.lst ((ansOf r).map V.int))) : Q (.ref p) (upd H1 p o) :=
  d _ p lc (Same.past (s.trans (same_upd np))) (.inl rfl) (s.free np) h (er ▸ hy.same (s.trans (same_upd np)))
def spYard (CY CW CC : Addr) : Sp := fun vs H Q _ => ∃ (p dx : Addr), vs = [.ref p] ∧ H p = some (.ins CY dx []) ∧
  ∀ (H' : Hp) (lc : Addr), SameBut p H H' → H lc = none → YardAt CY CW CC H' p lc Sj14.init → Q .non H'
def spBegins (K : PySem.W.Frag) (CY CW CC : Addr) : Sp := fun vs H Q _ => ∃ (a lc l : Addr) (y : Sj14.Yard) (w : Sj14.Wanted), vs = [.ref a, .ref l] ∧ YardAt CY CW CC H a lc y ∧ Good y ∧ SqL K H l ((sixOf w).map V.int) ∧ Done CY CW CC H a lc (Sj14.step y (.begins w)) Q
def spAdd (K : PySem.W.Frag) (CY CW CC : Addr) : Sp := fun vs H Q _ => ∃ (a lc l : Addr) (y : Sj14.Yard) (c : Sj14.Crate), vs = [.ref a, .ref l] ∧ YardAt CY CW CC H a lc y ∧ Good y ∧ SqL K H l ((fourOf c).map V.int) ∧ Done CY CW CC H a lc (Sj14.step y (.crate c)) Q
def spCheck (CY CW CC : Addr) : Sp := fun vs H Q _ => ∃ (a lc : Addr) (y : Sj14.Yard) (s : Nat), vs = [.ref a, .int (s : Int)] ∧ YardAt CY CW CC H a lc y ∧ Good y ∧ Done CY CW CC H a lc (Sj14.step y (.check s)) Q
def spCheap (CY CW CC : Addr) : Sp := fun vs H Q _ => ∃ (a lc : Addr) (y : Sj14.Yard), vs = [.ref a] ∧ YardAt CY CW CC H a lc y ∧ Good y ∧ Done CY CW CC H a lc (Sj14.step y .cheap) Q
def spNear (CY CW CC : Addr) : Sp := fun vs H Q _ => ∃ (a lc : Addr) (y : Sj14.Yard) (k : Nat), vs = [.ref a, .int (k : Int)] ∧ YardAt CY CW CC H a lc y ∧ Good y ∧ Done CY CW CC H a lc (Sj14.step y (.near k)) Q
def spMostM (CY CW CC : Addr) : Sp := fun vs H Q _ => ∃ (a lc : Addr) (y : Sj14.Yard), vs = [.ref a] ∧ YardAt CY CW CC H a lc y ∧ Good y ∧ Done CY CW CC H a lc (Sj14.step y .most) Q
/-! ### what is due -/
theorem step_begins_no {y : Sj14.Yard} {w : Sj14.Wanted} (h : ¬ GoodW w) : Sj14.step y (.begins w) = (y, Sj14.ok (-1)) := by
  unfold Sj14.step
  dsimp only
  rw [if_pos]
  refine Classical.byContradiction fun q => h ?_
  constructor <;> omega
theorem step_begins_yes {y : Sj14.Yard} {w : Sj14.Wanted} (h : GoodW w) : Sj14.step y (.begins w) = (⟨w, []⟩, Sj14.ok 0) := by
  unfold Sj14.step
  dsimp only
  rw [if_neg]
  obtain ⟨a, b, c, d, e, f, g⟩ := h
  omega
theorem step_crate_no {y : Sj14.Yard} {c : Sj14.Crate} (h : ¬ GoodC c) : Sj14.step y (.crate c) = (y, Sj14.ok (-1)) := by
  unfold Sj14.step
  dsimp only
  rw [if_pos]
  refine Classical.byContradiction fun q => h ?_
  unfold Sj14.HEAVY Sj14.PRICE at q
  constructor <;> omega
theorem step_crate_full {y : Sj14.Yard} {c : Sj14.Crate} (h : GoodC c) (e : y.crates.length = 8) : Sj14.step y (.crate c) = (y, Sj14.ok (-5)) := by
  unfold Sj14.step
  dsimp only
  rw [if_neg, if_pos]
  · show 8 ≤ y.crates.length
    omega
  · obtain ⟨a, b, c, d⟩ := h
    unfold Sj14.HEAVY Sj14.PRICE
    omega
theorem step_crate_yes {y : Sj14.Yard} {c : Sj14.Crate} (h : GoodC c) (G : Good y) (e : ¬ y.crates.length = 8) : Sj14.step y (.crate c) = ({ y with crates := y.crates ++ [c] }, Sj14.ok ((y.crates.length : Nat) : Int)) := by
  unfold Sj14.step
  dsimp only
  rw [if_neg, if_neg]
  · rfl
  · show ¬ 8 ≤ y.crates.length
    have := G.cnt
    omega
  · obtain ⟨a, b, c, d⟩ := h
    unfold Sj14.HEAVY Sj14.PRICE
    omega
theorem step_check_no {y : Sj14.Yard} {s : Nat} (h : ¬ (1 ≤ s ∧ s < 2 ^ y.count)) : Sj14.step y (.check s) = (y, Sj14.ok (-1)) := by
  unfold Sj14.step
  dsimp only
  rw [if_pos (by omega)]
theorem step_check_yes {y : Sj14.Yard} {s : Nat} (h : 1 ≤ s ∧ s < 2 ^ y.count) : Sj14.step y (.check s) = (y, if y.wrong s ≠ 0 then ⟨-6, Sj14.ints (y.wrong s :: told5 (melOf y s))⟩ else ⟨((y.price s : Nat) : Int), Sj14.ints (told5 (melOf y s))⟩) := by
  unfold Sj14.step
  dsimp only
  rw [if_neg (by omega)]
  rfl
theorem step_cheap (y : Sj14.Yard) : Sj14.step y .cheap = (y, match cheapL y y.melts with
    | [] => Sj14.ok (-6)
    | h :: r => ⟨((y.price h : Nat) : Int), Sj14.ints [y.heavy h, r.length + 1, h]⟩) := by
  unfold Sj14.step
  dsimp only
  rw [cheap_is]
  cases cheapL y y.melts <;> rfl
theorem step_near_no {y : Sj14.Yard} {k : Nat} (h : 1000 < k) : Sj14.step y (.near k) = (y, Sj14.ok (-1)) := by
  unfold Sj14.step
  dsimp only
  rw [if_pos h]
theorem step_near {y : Sj14.Yard} (G : Good y) {k : Nat} (h : ¬ 1000 < k) : Sj14.step y (.near k) = (y, match nearL y k y.melts with
    | [] => Sj14.ok (-6)
    | s :: r => ⟨0, Sj14.ints (Sj14.parts (y.off k s) (y.heavy s) ++ [y.price s, r.length + 1, s])⟩) := by
  unfold Sj14.step
  dsimp only
  rw [if_neg h, near_is G]
  cases nearL y k y.melts <;> rfl
theorem step_most (y : Sj14.Yard) : Sj14.step y .most = (y, match mostL y y.melts with
    | [] => Sj14.ok (-6)
    | h :: _ => ⟨((y.size h : Nat) : Int), Sj14.ints [h]⟩) := by
  unfold Sj14.step
  dsimp only
  rw [most_is]
  cases mostL y y.melts <;> rfl
section
variable {P : Program} {w : World} {K : PySem.W.Frag} {mg : Str → Option Value} {base : Heap} {CW CC CM CY : Addr}
theorem scYard : FnScope ["self"] ["self"] (defScope sYard) := ⟨rfl, rfl, rfl, by decide +kernel, rfl, by decide +kernel, by decide +kernel⟩
theorem ok_yard {f : Addr} {fd : FuncData} (F : Fun K "__init__" "Yard.__init__" sYard f fd) (T : Txt K mg CW CC CM CY) (DW : Kl P w K mg base "Wanted" CW 1 ["self", "numbers"] (spWanted K CW)) : FnOk P w K mg base CX0 3 f fd ["self"] (spYard CY CW CC) := by
  refine F.ok scYard (fun vs H Q E h => ?_) (fun cdv A outer s H vs Q E hr h => ?_)
  · obtain ⟨p, dx, rfl, _⟩ := h
    rfl
  · obtain ⟨p, dx, rfl, hp, k⟩ := h
    refine ⟨_, pss_cons (ps_fld (pv 0) (pe_kl DW hr rfl (pa_cons (pe_lst (pa_cons pe_int (pa_cons pe_int (pa_cons pe_int (pa_cons pe_int (pa_cons pe_int (pa_cons pe_int pa_nil))))))) pa_nil)) rfl)
      (pss_one (ps_fld (pv 0) (pe_lst pa_nil) rfl)), ?_⟩
    refine ⟨(by show 6 ≤ sizeLine; decide), fun l nl => ?_⟩
    have sl : Same H (upd H l (.lst [.int 1, .int 200, .int 0, .int 1000, .int 0, .int 1000])) := same_upd nl
    intro x dx2 nx nd ndx
    have sx : Same (upd H l (.lst [.int 1, .int 200, .int 0, .int 1000, .int 0, .int 1000])) (upd (upd (upd H l (.lst [.int 1, .int 200, .int 0, .int 1000, .int 0, .int 1000])) dx2 (.own x)) x (.ins CW dx2 [])) := fun b o e => by rw [upd_ne (ne_of_none e nx), upd_ne (ne_of_none e nd)]; exact e
    refine ⟨x, dx2, l, Sj14.init.wanted, rfl, upd_same, SqL.of (sx _ _ upd_same), fun H1 b1 W1 => ⟨rfl, ?_⟩⟩
    have s1 : Same H H1 := sl.trans (made nx nd b1)
    refine ⟨_, rfl, p, CY, dx, _, rfl, s1 _ _ hp, T.cY, T.yW, (by show 0 < 1000; decide), ?_⟩
    refine ⟨Nat.zero_le _, fun lc nlc => ?_⟩
    have sb : SameBut p H (upd H1 p (.ins CY dx (putF "wanted" (.ref x) []))) := (Same.but s1).trans SameBut.upd
    have plc : p ≠ lc := fun e => by rw [← e, upd_same] at nlc; cases nlc
    have e2 : upd (upd H1 p (.ins CY dx (putF "wanted" (.ref x) []))) lc (.lst []) p = some (.ins CY dx [("wanted", .ref x)]) := (upd_ne plc).trans upd_same
    refine ⟨_, rfl, p, CY, dx, _, rfl, e2, T.cY, T.yC, (by show 1 < 1000; decide), ?_⟩
    have nlc0 : H lc = none := sb.free nlc plc.symm
    have sB : SameBut p H1 (upd (upd (upd H1 p (.ins CY dx (putF "wanted" (.ref x) []))) lc (.lst [])) p (.ins CY dx (putF "crates" (.ref lc) [("wanted", .ref x)]))) := (SameBut.upd.trans (Same.but (same_upd nlc))).trans SameBut.upd
    refine k _ lc ((Same.but s1).trans sB) nlc0 ⟨dx, x, ?_, ?_, [], ?_, Two.nil⟩
    · exact upd_same.trans (congrArg (fun q => some (HO.ins CY dx q)) (put_past (by decide +kernel)))
    · obtain ⟨dw, t1, t2, t3, h0, h1, h2, h3⟩ := W1
      have q0 : H1 p = some (.ins CY dx []) := s1 _ _ hp
      refine ⟨dw, t1, t2, t3, sB _ _ h0 (ne_of h0 q0 ?_), sB _ _ h1 (ne_of h1 q0 (by intro z; cases z)), sB _ _ h2 (ne_of h2 q0 (by intro z; cases z)), sB _ _ h3 (ne_of h3 q0 (by intro z; cases z))⟩
      intro z
      injection z with _ _ z
      unfold wF at z
      cases z
    · exact (upd_ne plc.symm).trans upd_same
end
end Scrap

set_option Elab.async false
set_option maxRecDepth 100000
set_option maxHeartbeats 4000000
/-! The yard's methods. -/
namespace Scrap
open PySem PySem.Spec PyProof.Rows L2
theorem WantedAt.past {CW CY a lc wa dx w1 l1 : Addr} {H H' : Hp} {w : Sj14.Wanted} {xs : List V} (h : WantedAt CW H wa w) (ha : H a = some (.ins CY dx (yF w1 l1))) (hl : H lc = some (.lst xs)) (p : Past a lc H H') : WantedAt CW H' wa w := by
  obtain ⟨dw, t1, t2, t3, h0, h1, h2, h3⟩ := h
  refine ⟨dw, t1, t2, t3, p _ _ h0 (ne_of h0 ha ?_) (ne_of h0 hl (by intro z; cases z)), p _ _ h1 (ne_of h1 ha (by intro z; cases z)) (ne_of h1 hl (by intro z; cases z)),
    p _ _ h2 (ne_of h2 ha (by intro z; cases z)) (ne_of h2 hl (by intro z; cases z)), p _ _ h3 (ne_of h3 ha (by intro z; cases z)) (ne_of h3 hl (by intro z; cases z))⟩
  intro z
  injection z with _ _ z
  unfold wF yF at z
  cases z
theorem CrateAt.past {CC CY a lc b dx w1 l1 : Addr} {H H' : Hp} {c : Sj14.Crate} {xs : List V} (h : CrateAt CC H b c) (ha : H a = some (.ins CY dx (yF w1 l1))) (hl : H lc = some (.lst xs)) (p : Past a lc H H') : CrateAt CC H' b c := by
  obtain ⟨dw, h0⟩ := h
  refine ⟨dw, p _ _ h0 (ne_of h0 ha ?_) (ne_of h0 hl (by intro z; cases z))⟩
  intro z
  injection z with _ _ z
  unfold cF yF at z
  cases z
theorem ok_list (v : Int) (y : Sj14.Yard) : (ansOf (y, Sj14.ok v)).map V.int = [V.int v] := rfl
section
variable {P : Program} {w : World} {K : PySem.W.Frag} {mg : Str → Option Value} {base : Heap} {CW CC CM CY : Addr}
theorem scBegins : FnScope ["self", "numbers", "wanted"] ["self", "numbers"] (defScope sBegins) := ⟨rfl, rfl, rfl, by decide +kernel, rfl, by decide +kernel, by decide +kernel⟩
theorem ok_begins {f : Addr} {fd : FuncData} (F : Fun K "begins" "Yard.begins" sBegins f fd) (T : Txt K mg CW CC CM CY) (DW : Kl P w K mg base "Wanted" CW 1 ["self", "numbers"] (spWanted K CW))
    (DO : Df P w K mg base "wanted_is_as_told" 2 ["wanted"] (spWantedOk CW)) : FnOk P w K mg base CX0 3 f fd ["self", "numbers"] (spBegins K CY CW CC) := by
  refine F.ok scBegins (fun vs H Q E h => ?_) (fun cdv A outer s H vs Q E hr h => ?_)
  · obtain ⟨a, lc, l, y, w, rfl, _⟩ := h
    rfl
  · obtain ⟨a, lc, l, y, w, rfl, hY, G, hl, k⟩ := h
    obtain ⟨dy, wa, ha, hW, as, hc, hcs⟩ := hY.ex
    refine ⟨_, pss_cons (ps_set (i := 2) scBegins.nd rfl (.inl rfl) (pe_kl DW hr rfl (pa_cons (pv 1) pa_nil)))
      (pss_cons (ps_if (pt_not (pt_val (pe_df DO hr rfl (pa_cons (pv 2) pa_nil)))) (pss_one (ps_ret (pe_lst (pa_cons (pe_gi T.gT rfl) pa_nil)))) pss_nil)
      (pss_cons (ps_fld (pv 0) (pv 2) rfl)
      (pss_cons (ps_fld (pv 0) (pe_lst pa_nil) rfl)
      (pss_one (ps_ret (pe_lst (pa_cons pe_int pa_nil))))))), ?_⟩
    refine ⟨_, rfl, ?_⟩
    intro x dx nx nd ndx
    have sx : Same H (upd (upd H dx (.own x)) x (.ins CW dx [])) := fun b o e => by rw [upd_ne (ne_of_none e nx), upd_ne (ne_of_none e nd)]; exact e
    refine ⟨x, dx, l, w, rfl, upd_same, sx.seq hl, fun H1 b1 W1 => ⟨rfl, ?_⟩⟩
    have s1 : Same H H1 := made nx nd b1
    refine ⟨_, rfl, x, w, rfl, W1, _, rfl, ite2 (fun e => ?_) (fun e => ?_)⟩
    · -- return [NOT_AS_TOLD]
      have hno : ¬ GoodW w := fun g => by rw [(wOk_iff w).mpr g] at e; cases e
      refine ⟨(by show 1 ≤ sizeLine; decide), fun p np => ?_⟩
      refine Done.stay k hY (by rw [step_begins_no hno]) s1 np ?_
      rw [step_begins_no hno]
      exact upd_same
    · have g : GoodW w := (wOk_iff w).mp (by cases q : wOk w with | true => rfl | false => exact absurd (by rw [q]; rfl) e)
      have ha1 := s1 _ _ ha
      -- self.wanted = wanted
      refine ⟨_, rfl, _, rfl, a, CY, dy, _, rfl, ha1, T.cY, T.yW, (by show 2 < 1000; decide), ?_⟩
      have e1 : putF "wanted" (.ref x) (yF wa lc) = yF x lc := put_here
      rw [e1]
      generalize eH2 : upd H1 a _ = H2
      have p2 : SameBut a H1 H2 := by subst eH2; exact SameBut.upd
      have ha2 : H2 a = some (.ins CY dy (yF x lc)) := by subst eH2; exact upd_same
      -- self.crates = []
      refine ⟨Nat.zero_le _, fun l2 n2 => ?_⟩
      have ne2 : a ≠ l2 := ne_of_none ha2 n2
      have s3 : Same H2 (upd H2 l2 (.lst [])) := same_upd n2
      refine ⟨_, rfl, a, CY, dy, _, rfl, s3 _ _ ha2, T.cY, T.yC, (by show 2 < 1000; decide), ?_⟩
      have e2 : putF "crates" (.ref l2) (yF x lc) = yF x l2 := (put_past (by decide +kernel)).trans (congrArg _ put_here)
      rw [e2]
      generalize eH4 : upd (upd H2 l2 (.lst [])) a _ = H4
      have p4 : SameBut a H1 H4 := by subst eH4; exact (p2.trans (Same.but s3)).trans SameBut.upd
      have ha4 : H4 a = some (.ins CY dy (yF x l2)) := by subst eH4; exact upd_same
      have hl4 : H4 l2 = some (.lst []) := by subst eH4; exact (upd_ne ne2.symm).trans upd_same
      -- return [0]
      refine ⟨(by show 1 ≤ sizeLine; decide), fun p np => ?_⟩
      have s5 : Same H4 (upd H4 p (.lst [.int 0])) := same_upd np
      have hn : H l2 = none := s1.free (p2.free n2 ne2.symm)
      have npa : p ≠ a := fun e => by rw [e, ha4] at np; cases np
      refine k _ p l2 ?_ (.inr hn) (s1.free (p4.free np npa)) ?_ ?_
      · exact fun b o e _ _ => s5 _ _ (p4 _ _ (s1 _ _ e) (by assumption))
      · rw [step_begins_yes g]
        exact upd_same
      · rw [step_begins_yes g]
        have W4 : WantedAt CW H4 x w := WantedAt.past (lc := lc) W1 ha1 (s1 _ _ hc) (fun b o e q _ => p4 b o e q)
        exact YardAt.same ⟨dy, x, ha4, W4, [], hl4, Two.nil⟩ s5
theorem scAdd : FnScope ["self", "numbers", "added"] ["self", "numbers"] (defScope sAdd) := ⟨rfl, rfl, rfl, by decide +kernel, rfl, by decide +kernel, by decide +kernel⟩
theorem ok_add {f : Addr} {fd : FuncData} (F : Fun K "crate" "Yard.crate" sAdd f fd) (T : Txt K mg CW CC CM CY) (DC : Kl P w K mg base "Crate" CC 1 ["self", "numbers"] (spCrate K CC))
    (DO : Df P w K mg base "crate_is_as_told" 1 ["crate"] (spCrateOk CC)) : FnOk P w K mg base CX0 3 f fd ["self", "numbers"] (spAdd K CY CW CC) := by
  refine F.ok scAdd (fun vs H Q E h => ?_) (fun cdv A outer s H vs Q E hr h => ?_)
  · obtain ⟨a, lc, l, y, c, rfl, _⟩ := h
    rfl
  · obtain ⟨a, lc, l, y, c, rfl, hY, G, hl, k⟩ := h
    obtain ⟨dy, wa, ha, hW, as, hc, hcs⟩ := hY.ex
    have hr1 : Room 1 _ := hr.mono (by decide)
    refine ⟨_, pss_cons (ps_set (i := 2) scAdd.nd rfl (.inl rfl) (pe_kl DC hr rfl (pa_cons (pv 1) pa_nil)))
      (pss_cons (ps_if (pt_not (pt_val (pe_df DO hr1 rfl (pa_cons (pv 2) pa_nil)))) (pss_one (ps_ret (pe_lst (pa_cons (pe_gi T.gT rfl) pa_nil)))) pss_nil)
      (pss_cons (ps_if (pt_cmp (pc_eqI (pe_callB call_len_seq (by rfl) T.len PySem.boot_len (pa_cons (pe_fld (pv 0) rfl) pa_nil)) (pe_gi T.gM rfl)) rfl) (pss_one (ps_ret (pe_lst (pa_cons (pe_gi T.gR rfl) pa_nil)))) pss_nil)
      (pss_cons (ps_expr (pe_bm PySem.F.plainAttrs_list PySem.F.slot_list_append PySem.F.type_list_append mt_append (pe_fld (pv 0) rfl) (pa_cons (pv 2) pa_nil)))
      (pss_one (ps_ret (pe_lst (pa_cons (pe_op op_sub (pe_callB call_len_seq (by rfl) T.len PySem.boot_len (pa_cons (pe_fld (pv 0) rfl) pa_nil)) pe_int) pa_nil))))))), ?_⟩
    refine ⟨_, rfl, ?_⟩
    intro x dx nx nd ndx
    have sx : Same H (upd (upd H dx (.own x)) x (.ins CC dx [])) := fun b o e => by rw [upd_ne (ne_of_none e nx), upd_ne (ne_of_none e nd)]; exact e
    refine ⟨x, dx, l, c, rfl, upd_same, sx.seq hl, fun H1 b1 C1 => ⟨rfl, ?_⟩⟩
    have s1 : Same H H1 := made nx nd b1
    refine ⟨_, rfl, x, c, rfl, C1, _, rfl, ite2 (fun e => ?_) (fun e => ?_)⟩
    · have hno : ¬ GoodC c := fun g => by rw [(cOk_iff c).mpr g] at e; cases e
      refine ⟨(by show 1 ≤ sizeLine; decide), fun p np => ?_⟩
      refine Done.stay k hY (by rw [step_crate_no hno]) s1 np ?_
      rw [step_crate_no hno]
      exact upd_same
    · have g : GoodC c := (cOk_iff c).mp (by cases q : cOk c with | true => rfl | false => exact absurd (by rw [q]; rfl) e)
      have ha1 := s1 _ _ ha
      have hc1 := s1 _ _ hc
      have hlen : (as.map V.ref).length = y.crates.length := by rw [List.length_map, hcs.len]
      have h8 := G.cnt
      refine ⟨_, rfl, a, CY, dy, _, _, rfl, ha1, T.cY, T.yC, yF_c wa lc, lc, _, rfl, .inl (SqL.of hc1), _, _, rfl, rfl, _, rfl, ite2 (fun e2 => ?_) (fun e2 => ?_)⟩
      · have e8 : y.crates.length = 8 := by
          have := of_decide_eq_true e2
          omega
        refine ⟨(by show 1 ≤ sizeLine; decide), fun p np => ?_⟩
        refine Done.stay k hY (by rw [step_crate_full g e8]) s1 np ?_
        rw [step_crate_full g e8]
        exact upd_same
      · have e8 : ¬ y.crates.length = 8 := fun q => e2 (by rw [hlen, q]; rfl)
        refine ⟨_, rfl, a, CY, dy, _, _, rfl, ha1, T.cY, T.yC, yF_c wa lc, .inl ⟨rfl, _, SqL.of hc1⟩, _, rfl, lc, _, _, rfl, rfl, hc1, small1000 (by omega), ?_⟩
        have hac : a ≠ lc := ne_of ha1 hc1 (by intro z; cases z)
        generalize eH2 : upd H1 lc _ = H2
        have p2 : SameBut lc H1 H2 := by subst eH2; exact SameBut.upd
        have hc2 : H2 lc = some (.lst ((as ++ [x]).map V.ref)) := by
          subst eH2
          rw [upd_same, List.map_append]
          rfl
        have ha2 := p2 _ _ ha1 hac
        refine ⟨_, rfl, a, CY, dy, _, _, rfl, ha2, T.cY, T.yC, yF_c wa lc, lc, _, rfl, .inl (SqL.of hc2), _, _, rfl, rfl, (by show 1 ≤ sizeLine; decide), fun p np => ?_⟩
        have s3 := same_upd (o := .lst [V.int ((((as ++ [x]).map V.ref).length : Int) - 1)]) np
        have npl : p ≠ lc := fun e => by rw [e, hc2] at np; cases np
        refine k _ p lc ?_ (.inl rfl) (s1.free (p2.free np npl)) ?_ ?_
        · exact fun b o e _ q => s3 _ _ (p2 _ _ (s1 _ _ e) q)
        · rw [step_crate_yes g G e8]
          have el : (((as ++ [x]).map V.ref).length : Int) - 1 = ((y.crates.length : Nat) : Int) := by
            rw [List.length_map, List.length_append, hcs.len]
            show ((y.crates.length + 1 : Nat) : Int) - 1 = _
            omega
          rw [ok_list, ← el]
          exact upd_same
        · rw [step_crate_yes g G e8]
          have pp : Past a lc H1 H2 := fun b o e _ q => p2 b o e q
          refine YardAt.same ⟨dy, wa, ha2, WantedAt.past (hW.same s1) ha1 hc1 pp, as ++ [x], hc2, ?_⟩ s3
          exact (hcs.imp fun b d r => CrateAt.past (crate_mono CC _ _ _ _ s1 r) ha1 hc1 pp).snoc (CrateAt.past C1 ha1 hc1 pp)
theorem scCheck : FnScope ["self", "number", "melt", "wrong"] ["self", "number"] (defScope sCheck) := ⟨rfl, rfl, rfl, by decide +kernel, rfl, by decide +kernel, by decide +kernel⟩
theorem ok_check {f : Addr} {fd : FuncData} (F : Fun K "check" "Yard.check" sCheck f fd) (T : Txt K mg CW CC CM CY) (DI : Df P w K mg base "is_melt" 1 ["crates", "number"] (spIsMelt K))
    (DM : Df P w K mg base "melt_of" 3 ["crates", "number"] (spMeltOf CM CC)) (DW : Df P w K mg base "wrong_with" 2 ["melt", "wanted"] (spWrong CM CW)) (DU : Df P w K mg base "makeup" 2 ["melt"] (spMakeup CM)) : FnOk P w K mg base CX0 4 f fd ["self", "number"] (spCheck CY CW CC) := by
  refine F.ok scCheck (fun vs H Q E h => ?_) (fun cdv A outer s H vs Q E hr h => ?_)
  · obtain ⟨a, lc, y, n, rfl, _⟩ := h
    rfl
  · obtain ⟨a, lc, y, n, rfl, hY, G, k⟩ := h
    obtain ⟨dy, wa, ha, hW, as, hc, hcs⟩ := hY.ex
    have hr1 : Room 1 _ := hr.mono (by decide)
    have hr2 : Room 2 _ := hr.mono (by decide)
    refine ⟨_, pss_cons (ps_if (pt_not (pt_val (pe_df DI hr1 rfl (pa_cons (pe_fld (pv 0) rfl) (pa_cons (pv 1) pa_nil))))) (pss_one (ps_ret (pe_lst (pa_cons (pe_gi T.gT rfl) pa_nil)))) pss_nil)
      (pss_cons (ps_set (i := 2) scCheck.nd rfl (.inl rfl) (pe_df DM hr rfl (pa_cons (pe_fld (pv 0) rfl) (pa_cons (pv 1) pa_nil))))
      (pss_cons (ps_set (i := 3) scCheck.nd rfl (.inl rfl) (pe_df DW hr2 rfl (pa_cons (pv 2) (pa_cons (pe_fld (pv 0) rfl) pa_nil))))
      (pss_cons (ps_if (pt_cmpR op_gt (pv 3) pe_int (nomark _)) (pss_one (ps_ret (pe_op op_cat (pe_lst (pa_cons (pe_gi T.gW rfl) (pa_cons (pv 3) pa_nil))) (pe_df DU hr2 rfl (pa_cons (pv 2) pa_nil))))) pss_nil)
      (pss_one (ps_ret (pe_op op_cat (pe_lst (pa_cons (pe_fld (pv 2) rfl) pa_nil)) (pe_df DU hr2 rfl (pa_cons (pv 2) pa_nil)))))))), ?_⟩
    have hlen : (as.map V.ref).length = y.count := by rw [List.length_map, hcs.len]; rfl
    refine ⟨_, rfl, a, CY, dy, _, _, rfl, ha, T.cY, T.yC, yF_c wa lc, _, rfl, lc, as.map V.ref, n, rfl, SqL.of hc, _, rfl, ite2 (fun e => ?_) (fun e => ?_)⟩
    · have hno : ¬ (1 ≤ n ∧ n < 2 ^ y.count) := fun q => by
        rw [hlen, decide_eq_true q.1, decide_eq_true q.2] at e
        cases e
      refine ⟨(by show 1 ≤ sizeLine; decide), fun p np => ?_⟩
      refine Done.stay k hY (by rw [step_check_no hno]) (Same.refl H) np ?_
      rw [step_check_no hno]
      exact upd_same
    · have hyes : 1 ≤ n ∧ n < 2 ^ y.count := by
        rw [hlen, Bool.not_eq_true', Bool.not_eq_false, Bool.and_eq_true, decide_eq_true_eq, decide_eq_true_eq] at e
        exact e
      have hpos := heavy_pos G n hyes.1 hyes.2
      have hhi := heavy_le G n
      refine ⟨_, rfl, a, CY, dy, _, _, rfl, ha, T.cY, T.yC, yF_c wa lc, _, rfl, lc, n, y, rfl, ⟨as, hc, hcs⟩, G, fun H2 p2 s2 n2 m2 => ?_⟩
      refine ⟨_, rfl, _, rfl, a, CY, dy, _, _, rfl, s2 _ _ ha, T.cY, T.yW, yF_w wa lc, p2, wa, melOf y n, y.wanted, rfl, m2, hW.same s2, G.w, ?_⟩
      have ew : wrongI (melOf y n).heavy (melOf y n).copper (melOf y n).zinc y.wanted = ((y.wrong n : Nat) : Int) := wrong_eq hpos
      rw [ew]
      have es := step_check_yes hyes
      refine ⟨_, rfl, _, _, rfl, rfl, _, rfl, ite2 (fun e2 => ?_) (fun e2 => ?_)⟩
      · have hw : y.wrong n ≠ 0 := by
          have := of_decide_eq_true e2
          omega
        rw [if_pos hw] at es
        refine ⟨_, rfl, (by show 2 ≤ sizeLine; decide), fun p3 n3 => ?_⟩
        have s3 := same_upd (o := .lst [V.int (-6), V.int ((y.wrong n : Nat) : Int)]) n3
        refine ⟨_, rfl, p2, melOf y n, rfl, melt_mono CM _ _ _ _ s3 m2, hpos, (by show y.heavy n < _; omega), fun H4 p4 s4 n4 e4 => ?_⟩
        refine ⟨p3, p4, _, _, rfl, rfl, s4 _ _ upd_same, e4, (by show 2 + 5 ≤ sizeLine; decide), fun p5 n5 => ?_⟩
        refine Done.stay k hY (by rw [es]) (((s2.trans s3).trans s4)) n5 ?_
        rw [upd_same, es]
        rfl
      · have hw : y.wrong n = 0 := by
          have := of_decide_eq_false (Bool.eq_false_iff.mpr e2)
          omega
        rw [if_neg (fun q => q hw)] at es
        obtain ⟨dm, hm⟩ := m2
        refine ⟨_, rfl, p2, CM, dm, _, _, rfl, hm, T.cM, T.mP, mF_p (melOf y n), (by show 1 ≤ sizeLine; decide), fun p3 n3 => ?_⟩
        have s3 := same_upd (o := .lst [V.int (((melOf y n).price : Nat) : Int)]) n3
        refine ⟨_, rfl, p2, melOf y n, rfl, ⟨dm, s3 _ _ hm⟩, hpos, (by show y.heavy n < _; omega), fun H4 p4 s4 n4 e4 => ?_⟩
        refine ⟨p3, p4, _, _, rfl, rfl, s4 _ _ upd_same, e4, (by show 1 + 5 ≤ sizeLine; decide), fun p5 n5 => ?_⟩
        refine Done.stay k hY (by rw [es]) (((s2.trans s3).trans s4)) n5 ?_
        rw [upd_same, es]
        rfl
end
end Scrap

set_option Elab.async false
set_option maxRecDepth 100000
set_option maxHeartbeats 4000000
/-! The calls that look at all melts. -/
namespace Scrap
open PySem PySem.Spec PyProof.Rows L2
theorem melts_len {y : Sj14.Yard} (G : Good y) : y.melts.length ≤ 1000 := by
  have h := upto_len y (2 ^ y.count)
  rw [upto_all] at h
  have := pow_count G
  omega
theorem head_at {y : Sj14.Yard} {CM p : Addr} {H : Hp} {s : Nat} {r : List Nat} (h : RefsAt (MelAt CM y) H p (s :: r)) : ∃ (a : Addr) (as : List Addr), H p = some (.lst ((a :: as).map V.ref)) ∧ MelAt CM y H a s ∧ (a :: as).length = r.length + 1 := by
  obtain ⟨as, h1, h2⟩ := h
  match as, h1, h2 with
  | [], _, h2 => exact absurd h2.len (by simp)
  | a :: as, h1, h2 => exact ⟨a, as, h1, h2.at_ 0 a s rfl rfl, h2.len⟩
section
variable {P : Program} {w : World} {K : PySem.W.Frag} {mg : Str → Option Value} {base : Heap} {CW CC CM CY : Addr}
theorem scCheap : FnScope ["self", "melts", "as_good", "melt"] ["self"] (defScope sCheap) := ⟨rfl, rfl, rfl, by decide +kernel, rfl, by decide +kernel, by decide +kernel⟩
theorem ok_cheap {f : Addr} {fd : FuncData} (F : Fun K "cheap" "Yard.cheap" sCheap f fd) (T : Txt K mg CW CC CM CY) (DM : Df P w K mg base "melts_as_wanted" 4 ["crates", "wanted"] (spMelts CC CW CM))
    (DC : Df P w K mg base "cheapest" 2 ["melts"] (spPick CM cheapL)) : FnOk P w K mg base CX0 5 f fd ["self"] (spCheap CY CW CC) := by
  refine F.ok scCheap (fun vs H Q E h => ?_) (fun cdv A outer s H vs Q E hr h => ?_)
  · obtain ⟨a, lc, y, rfl, _⟩ := h
    rfl
  · obtain ⟨a, lc, y, rfl, hY, G, k⟩ := h
    obtain ⟨dy, wa, ha, hW, hR⟩ := hY.ex
    have hr2 : Room 2 _ := hr.mono (by decide)
    refine ⟨_, pss_cons (ps_set (i := 1) scCheap.nd rfl (.inl rfl) (pe_df DM hr rfl (pa_cons (pe_fld (pv 0) rfl) (pa_cons (pe_fld (pv 0) rfl) pa_nil))))
      (pss_cons (ps_if (pt_cmp (pc_eqI (pe_callB call_len_seq (by rfl) T.len PySem.boot_len (pa_cons (pv 1) pa_nil)) pe_int) rfl) (pss_one (ps_ret (pe_lst (pa_cons (pe_gi T.gW rfl) pa_nil)))) pss_nil)
      (pss_cons (ps_set (i := 2) scCheap.nd rfl (.inl rfl) (pe_df DC hr2 rfl (pa_cons (pv 1) pa_nil)))
      (pss_cons (ps_set (i := 3) scCheap.nd rfl (.inl rfl) (pe_ix ix_list (pv 2) pe_int (fun _ _ => rfl)))
      (pss_one (ps_ret (pe_lst (pa_cons (pe_fld (pv 3) rfl) (pa_cons (pe_fld (pv 3) rfl) (pa_cons (pe_callB call_len_seq (by rfl) T.len PySem.boot_len (pa_cons (pv 2) pa_nil)) (pa_cons (pe_fld (pv 3) rfl) pa_nil)))))))))), ?_⟩
    have hml := melts_len G
    refine ⟨_, rfl, a, CY, dy, _, _, rfl, ha, T.cY, T.yC, yF_c wa lc, _, rfl, a, CY, dy, _, _, rfl, ha, T.cY, T.yW, yF_w wa lc, lc, wa, y, rfl, hR, hW, G, fun H1 p1 s1 n1 r1 => ?_⟩
    obtain ⟨as, h1, h2⟩ := r1
    have hlen : (as.map V.ref).length = y.melts.length := by rw [List.length_map, h2.len]
    refine ⟨_, rfl, p1, _, rfl, .inl (SqL.of h1), _, _, rfl, rfl, _, rfl, ite2 (fun e => ?_) (fun e => ?_)⟩
    · have e0 : y.melts = [] := List.length_eq_zero_iff.mp (by have := of_decide_eq_true e; omega)
      have es := step_cheap y
      rw [e0] at es
      refine ⟨(by show 1 ≤ sizeLine; decide), fun p np => ?_⟩
      refine Done.stay k hY (by rw [es]) s1 np ?_
      rw [upd_same, es]
      rfl
    · have hne : y.melts ≠ [] := fun q => e (by rw [hlen, q]; rfl)
      refine ⟨_, rfl, p1, y, y.melts, rfl, ⟨as, h1, h2⟩, hne, hml, fun H2 p2 s2 n2 r2 => ?_⟩
      have es := step_cheap y
      have hL : cheapL y y.melts ≠ [] := mins_ne (wo_heavy y) (fun _ _ => trivial) (mins_ne (wo_price y) (fun _ _ => trivial) hne)
      cases hc : cheapL y y.melts with
      | nil => exact absurd hc hL
      | cons b r =>
        rw [hc] at es r2
        obtain ⟨c, cs, k1, ⟨dm, k2⟩, k3⟩ := head_at r2
        have el : (((c :: cs).map V.ref).length : Int) = ((r.length + 1 : Nat) : Int) := by rw [List.length_map, k3]
        refine ⟨_, rfl, p2, _, _, _, rfl, rfl, SqL.of k1, atI_nat (j := 0) (v := V.ref c) rfl, ?_⟩
        refine ⟨_, rfl, c, CM, dm, _, _, rfl, k2, T.cM, T.mP, mF_p (melOf y b), _, rfl, c, CM, dm, _, _, rfl, k2, T.cM, T.mH, mF_h (melOf y b), _, rfl, p2, _, rfl, .inl (SqL.of k1), _, rfl, c, CM, dm, _, _, rfl, k2, T.cM, T.mN, mF_n (melOf y b), (by show 4 ≤ sizeLine; decide), fun p np => ?_⟩
        rw [el]
        refine Done.stay k hY (by rw [es]) ((s1.trans s2)) np ?_
        rw [upd_same, es]
        rfl
theorem scNear : FnScope ["self", "thousandths", "melts", "as_good", "melt"] ["self", "thousandths"] (defScope sNear) := ⟨rfl, rfl, rfl, by decide +kernel, rfl, by decide +kernel, by decide +kernel⟩
theorem ok_near {f : Addr} {fd : FuncData} (F : Fun K "near" "Yard.near" sNear f fd) (T : Txt K mg CW CC CM CY) (DM : Df P w K mg base "melts_as_wanted" 4 ["crates", "wanted"] (spMelts CC CW CM))
    (DN : Df P w K mg base "nearest" 3 ["melts", "thousandths"] (spNearest CM)) (DD : Df P w K mg base "distance" 2 ["melt", "thousandths"] (spDist CM)) : FnOk P w K mg base CX0 5 f fd ["self", "thousandths"] (spNear CY CW CC) := by
  refine F.ok scNear (fun vs H Q E h => ?_) (fun cdv A outer s H vs Q E hr h => ?_)
  · obtain ⟨a, lc, y, n, rfl, _⟩ := h
    rfl
  · obtain ⟨a, lc, y, n, rfl, hY, G, k⟩ := h
    obtain ⟨dy, wa, ha, hW, hR⟩ := hY.ex
    have hr2 : Room 2 _ := hr.mono (by decide)
    have hr3 : Room 3 _ := hr.mono (by decide)
    refine ⟨_, pss_cons (ps_if (pt_cmpR op_gt (pv 1) (pe_gi T.gWh rfl) (nomark _)) (pss_one (ps_ret (pe_lst (pa_cons (pe_gi T.gT rfl) pa_nil)))) pss_nil)
      (pss_cons (ps_set (i := 2) scNear.nd rfl (.inl rfl) (pe_df DM hr rfl (pa_cons (pe_fld (pv 0) rfl) (pa_cons (pe_fld (pv 0) rfl) pa_nil))))
      (pss_cons (ps_if (pt_cmp (pc_eqI (pe_callB call_len_seq (by rfl) T.len PySem.boot_len (pa_cons (pv 2) pa_nil)) pe_int) rfl) (pss_one (ps_ret (pe_lst (pa_cons (pe_gi T.gW rfl) pa_nil)))) pss_nil)
      (pss_cons (ps_set (i := 3) scNear.nd rfl (.inl rfl) (pe_df DN hr3 rfl (pa_cons (pv 2) (pa_cons (pv 1) pa_nil))))
      (pss_cons (ps_set (i := 4) scNear.nd rfl (.inl rfl) (pe_ix ix_list (pv 3) pe_int (fun _ _ => rfl)))
      (pss_one (ps_ret (pe_op op_cat (pe_op op_cat (pe_lst (pa_cons pe_int pa_nil)) (pe_df DD hr2 rfl (pa_cons (pv 4) (pa_cons (pv 1) pa_nil))))
        (pe_lst (pa_cons (pe_fld (pv 4) rfl) (pa_cons (pe_callB call_len_seq (by rfl) T.len PySem.boot_len (pa_cons (pv 3) pa_nil)) (pa_cons (pe_fld (pv 4) rfl) pa_nil))))))))))), ?_⟩
    have hml := melts_len G
    refine ⟨_, rfl, _, _, rfl, rfl, _, rfl, ite2 (fun e => ?_) (fun e => ?_)⟩
    · have hno : 1000 < n := by have := of_decide_eq_true e; omega
      have es := step_near_no (y := y) hno
      refine ⟨(by show 1 ≤ sizeLine; decide), fun p np => ?_⟩
      refine Done.stay k hY (by rw [es]) (Same.refl H) np ?_
      rw [upd_same, es]
      rfl
    have hn : ¬ 1000 < n := by have := of_decide_eq_false (Bool.eq_false_iff.mpr e); omega
    have es := step_near G hn
    refine ⟨_, rfl, a, CY, dy, _, _, rfl, ha, T.cY, T.yC, yF_c wa lc, _, rfl, a, CY, dy, _, _, rfl, ha, T.cY, T.yW, yF_w wa lc, lc, wa, y, rfl, hR, hW, G, fun H1 p1 s1 n1 r1 => ?_⟩
    obtain ⟨as, h1, h2⟩ := r1
    have hlen : (as.map V.ref).length = y.melts.length := by rw [List.length_map, h2.len]
    refine ⟨_, rfl, p1, _, rfl, .inl (SqL.of h1), _, _, rfl, rfl, _, rfl, ite2 (fun e => ?_) (fun e => ?_)⟩
    · have e0 : y.melts = [] := List.length_eq_zero_iff.mp (by have := of_decide_eq_true e; omega)
      rw [e0] at es
      refine ⟨(by show 1 ≤ sizeLine; decide), fun p np => ?_⟩
      refine Done.stay k hY (by rw [es]) s1 np ?_
      rw [upd_same, es]
      rfl
    · have hne : y.melts ≠ [] := fun q => e (by rw [hlen, q]; rfl)
      have hpos := melts_pos G
      refine ⟨_, rfl, _, rfl, p1, y, y.melts, n, rfl, ⟨as, h1, h2⟩, hne, hml, (by omega), fun s hs => ⟨hpos s hs, heavy_le G s⟩, fun H2 p2 s2 n2 r2 => ?_⟩
      have hL : nearL y n y.melts ≠ [] := mins_ne (wo_price y) (fun _ _ => trivial) (mins_ne (wo_near y n) hpos hne)
      have hsub : ∀ s ∈ nearL y n y.melts, s ∈ y.melts := fun s hs => (mem_mins.mp (mem_mins.mp hs).1).1
      cases hc : nearL y n y.melts with
      | nil => exact absurd hc hL
      | cons b r =>
        have hb := hpos b (hsub b (by rw [hc]; exact List.mem_cons_self))
        have hb2 := heavy_le G b
        rw [hc] at es r2
        obtain ⟨c, cs, k1, k2, k3⟩ := head_at r2
        have el : (((c :: cs).map V.ref).length : Int) = ((r.length + 1 : Nat) : Int) := by rw [List.length_map, k3]
        refine ⟨_, rfl, p2, _, _, _, rfl, rfl, SqL.of k1, atI_nat (j := 0) (v := V.ref c) rfl, ?_⟩
        refine ⟨(by show 1 ≤ sizeLine; decide), fun p3 n3 => ?_⟩
        have s3 : Same H2 (upd H2 p3 (.lst [.int 0])) := same_upd n3
        refine ⟨_, rfl, _, rfl, c, melOf y b, n, rfl, melt_mono CM _ _ _ _ s3 k2, hb, (by show y.heavy b < _; omega), (by omega), fun H4 p4 s4 n4 e4 => ?_⟩
        have e4 : H4 p4 = some (.lst (farOf y n b)) := e4
        refine ⟨p3, p4, _, _, rfl, rfl, s4 _ _ upd_same, e4, (by show 1 + 2 ≤ sizeLine; decide), fun p5 n5 => ?_⟩
        have s5 := same_upd (o := .lst ([V.int 0] ++ farOf y n b)) n5
        have ss : Same H2 _ := (s3.trans s4).trans s5
        obtain ⟨dm, k2'⟩ := melt_mono CM _ _ _ _ ss k2
        refine ⟨_, rfl, c, CM, dm, _, _, rfl, k2', T.cM, T.mP, mF_p (melOf y b), _, rfl, p2, _, rfl, .inl (SqL.of (ss _ _ k1)), _, rfl, c, CM, dm, _, _, rfl, k2', T.cM, T.mN, mF_n (melOf y b), (by show 3 ≤ sizeLine; decide), fun p6 n6 => ?_⟩
        rw [el]
        have s6 := same_upd (o := .lst [V.int ((y.price b : Nat) : Int), V.int ((r.length + 1 : Nat) : Int), V.int ((b : Nat) : Int)]) n6
        refine ⟨p5, p6, _, _, rfl, rfl, s6 _ _ upd_same, upd_same, (by show 3 + 3 ≤ sizeLine; decide), fun p7 n7 => ?_⟩
        refine Done.stay k hY (by rw [es]) (((((s1.trans s2).trans ss)).trans s6)) n7 ?_
        rw [upd_same, es]
        rfl
theorem scMostM : FnScope ["self", "melts", "melt"] ["self"] (defScope sMostM) := ⟨rfl, rfl, rfl, by decide +kernel, rfl, by decide +kernel, by decide +kernel⟩
theorem ok_mostM {f : Addr} {fd : FuncData} (F : Fun K "most" "Yard.most" sMostM f fd) (T : Txt K mg CW CC CM CY) (DM : Df P w K mg base "melts_as_wanted" 4 ["crates", "wanted"] (spMelts CC CW CM))
    (DC : Df P w K mg base "with_most_crates" 1 ["melts"] (spPick CM mostL)) : FnOk P w K mg base CX0 5 f fd ["self"] (spMostM CY CW CC) := by
  refine F.ok scMostM (fun vs H Q E h => ?_) (fun cdv A outer s H vs Q E hr h => ?_)
  · obtain ⟨a, lc, y, rfl, _⟩ := h
    rfl
  · obtain ⟨a, lc, y, rfl, hY, G, k⟩ := h
    obtain ⟨dy, wa, ha, hW, hR⟩ := hY.ex
    have hr1 : Room 1 _ := hr.mono (by decide)
    refine ⟨_, pss_cons (ps_set (i := 1) scMostM.nd rfl (.inl rfl) (pe_df DM hr rfl (pa_cons (pe_fld (pv 0) rfl) (pa_cons (pe_fld (pv 0) rfl) pa_nil))))
      (pss_cons (ps_if (pt_cmp (pc_eqI (pe_callB call_len_seq (by rfl) T.len PySem.boot_len (pa_cons (pv 1) pa_nil)) pe_int) rfl) (pss_one (ps_ret (pe_lst (pa_cons (pe_gi T.gW rfl) pa_nil)))) pss_nil)
      (pss_cons (ps_set (i := 2) scMostM.nd rfl (.inl rfl) (pe_ix ix_list (pe_df DC hr1 rfl (pa_cons (pv 1) pa_nil)) pe_int (fun _ _ => rfl)))
      (pss_one (ps_ret (pe_lst (pa_cons (pe_fld (pv 2) rfl) (pa_cons (pe_fld (pv 2) rfl) pa_nil))))))), ?_⟩
    have hml := melts_len G
    have es := step_most y
    refine ⟨_, rfl, a, CY, dy, _, _, rfl, ha, T.cY, T.yC, yF_c wa lc, _, rfl, a, CY, dy, _, _, rfl, ha, T.cY, T.yW, yF_w wa lc, lc, wa, y, rfl, hR, hW, G, fun H1 p1 s1 n1 r1 => ?_⟩
    obtain ⟨as, h1, h2⟩ := r1
    have hlen : (as.map V.ref).length = y.melts.length := by rw [List.length_map, h2.len]
    refine ⟨_, rfl, p1, _, rfl, .inl (SqL.of h1), _, _, rfl, rfl, _, rfl, ite2 (fun e => ?_) (fun e => ?_)⟩
    · have e0 : y.melts = [] := List.length_eq_zero_iff.mp (by have := of_decide_eq_true e; omega)
      rw [e0] at es
      refine ⟨(by show 1 ≤ sizeLine; decide), fun p np => ?_⟩
      refine Done.stay k hY (by rw [es]) s1 np ?_
      rw [upd_same, es]
      rfl
    · have hne : y.melts ≠ [] := fun q => e (by rw [hlen, q]; rfl)
      refine ⟨_, rfl, p1, y, y.melts, rfl, ⟨as, h1, h2⟩, hne, hml, fun H2 p2 s2 n2 r2 => ?_⟩
      have hL : mostL y y.melts ≠ [] := mins_ne (wo_size y) (fun _ _ => trivial) hne
      cases hc : mostL y y.melts with
      | nil => exact absurd hc hL
      | cons b r =>
        rw [hc] at es r2
        obtain ⟨c, cs, k1, ⟨dm, k2⟩, k3⟩ := head_at r2
        refine ⟨p2, _, _, _, rfl, rfl, SqL.of k1, atI_nat (j := 0) (v := V.ref c) rfl, ?_⟩
        refine ⟨_, rfl, c, CM, dm, _, _, rfl, k2, T.cM, T.mK, mF_k (melOf y b), _, rfl, c, CM, dm, _, _, rfl, k2, T.cM, T.mN, mF_n (melOf y b), (by show 2 ≤ sizeLine; decide), fun p np => ?_⟩
        refine Done.stay k hY (by rw [es]) ((s1.trans s2)) np ?_
        rw [upd_same, es]
        rfl
end
end Scrap

set_option Elab.async false
set_option maxRecDepth 100000
set_option maxHeartbeats 4000000
/-! A call handed on; the list of calls. -/
namespace Scrap
open PySem PySem.Spec PyProof.Rows L2
theorem ifT {c : Bool} {A B : Prop} (hc : c = true) (h : A) : if c = true then A else B := by
  rw [if_pos hc]
  exact h
theorem ifF {c : Bool} {A B : Prop} (hc : c = false) (h : B) : if c = true then A else B := by
  rw [hc, if_neg Bool.false_ne_true]
  exact h
section
variable {X : Cx} {o e : Expr} {es : List Expr} {t : TA} {ta : TE} {m : Str} {pos apos : Pos} {k : Nat} {ps : List Str} {sp : Sp} {C : Addr}
theorem pe_me {pl : Sem Bool} (he : PE X o ta) (c : Cls X.K C) (D : Me X.prog X.w X.K X.mg X.base C m k ps sp) (hr : Room k X.A) (ha : PA X (e :: es) t)
    (hst : starEach (e :: es) X.env = (false, eval e X.env) :: starEach es X.env := by rfl) (hpl : (backTo pos (starEach es X.env)).any (·.1) = false := by rfl)
    (ht : eval (.Call (.Attribute o m apos) (e :: es) [] pos) X.env = (do
      let ov ← eval o X.env
      standAt apos.atName
      let (f, first) ← holding [ov] (getMethod ov m pl)
      callWith pos f first (backTo pos (starEach (e :: es) X.env)) (backToKw pos (keywordEach [] X.env))) := by rfl) : PE X (.Call (.Attribute o m apos) (e :: es) [] pos) (tMeth C m sp [] E0 ta t) := by
  obtain ⟨f, fd, h1, h2, h3⟩ := D.ex
  exact pe_meth he c h1 h2 hr h3 .nil pass0 ha hst hpl ht
theorem pe_me0 {pl : Sem Bool} (he : PE X o ta) (c : Cls X.K C) (D : Me X.prog X.w X.K X.mg X.base C m k ps sp) (hr : Room k X.A)
    (ht : eval (.Call (.Attribute o m apos) [] [] pos) X.env = (do
      let ov ← eval o X.env
      standAt apos.atName
      let (f, first) ← holding [ov] (getMethod ov m pl)
      callWith pos f first (backTo pos (starEach [] X.env)) (backToKw pos (keywordEach [] X.env))) := by rfl) : PE X (.Call (.Attribute o m apos) [] [] pos) (tMeth C m sp [] E0 ta tNil) := by
  obtain ⟨f, fd, h1, h2, h3⟩ := D.ex
  exact pe_meth0 he c h1 h2 hr h3 .nil pass0 ht
end
def spTo (K : PySem.W.Frag) (CY CW CC : Addr) : Sp := fun vs H Q _ => ∃ (a lc l : Addr) (y : Sj14.Yard) (p : Int) (args : List Int) (q : Sj14.Call), vs = [.ref a, .int p, .ref l] ∧ Told p args q ∧ SqL K H l (args.map V.int) ∧ YardAt CY CW CC H a lc y ∧ Good y ∧ Done CY CW CC H a lc (Sj14.step y q) Q
def behind : List Int := [6, 4, 1, 0, 1, 0]
theorem told_behind {p : Int} {args : List Int} {q : Sj14.Call} (h : Told p args q) : ∃ j : Nat, p = (j : Int) ∧ behind[j]? = some ((args.length : Nat) : Int) := by
  cases h with
  | begins => exact ⟨0, rfl, rfl⟩
  | crate => exact ⟨1, rfl, rfl⟩
  | check => exact ⟨2, rfl, rfl⟩
  | cheap => exact ⟨3, rfl, rfl⟩
  | near => exact ⟨4, rfl, rfl⟩
  | most => exact ⟨5, rfl, rfl⟩
def spAns (K : PySem.W.Frag) : Sp := fun vs H Q _ => ∃ (c : Addr) (ns : List Int) (cs : List (List (List Int))), vs = [.ref c] ∧ SqL K H c (ns.map V.int) ∧ Req ns cs ∧
  ∀ (H' : Hp) (p : Addr), H' p = some (.lst ((PySj14.answers ns).map V.int)) → Q (.ref p) H'
theorem flat_cons (c : List (List Int)) (cs : List (List (List Int))) : flat (c :: cs) = c.headD [] ++ flat cs := rfl
theorem flat_app (as bs : List (List (List Int))) : flat (as ++ bs) = flat as ++ flat bs := List.flatMap_append
theorem cut_mid (pre mid post : List V) : cutV (pre ++ mid ++ post) (some ((pre.length : Nat) : Int)) (some ((pre.length + mid.length : Nat) : Int)) = mid := by
  unfold cutV
  rw [HT.sIx_nat, HT.sIx_nat]
  have l1 : (pre ++ mid ++ post).length = pre.length + mid.length + post.length := by rw [List.length_append, List.length_append]
  rw [l1, Nat.min_eq_left (by omega), Nat.min_eq_left (by omega), List.append_assoc, List.drop_left, Nat.add_sub_cancel_left, List.take_left]
section
variable {P : Program} {w : World} {K : PySem.W.Frag} {mg : Str → Option Value} {base : Heap} {CW CC CM CY : Addr}
theorem scTo : FnScope ["yard", "call", "numbers"] ["yard", "call", "numbers"] (defScope sTo) := ⟨rfl, rfl, rfl, by decide +kernel, rfl, by decide +kernel, by decide +kernel⟩
theorem ok_to {f : Addr} {fd : FuncData} (F : Fun K "answer_to" "answer_to" sTo f fd) (T : Txt K mg CW CC CM CY) (MB : Me P w K mg base CY "begins" 3 ["self", "numbers"] (spBegins K CY CW CC)) (MA : Me P w K mg base CY "crate" 3 ["self", "numbers"] (spAdd K CY CW CC))
    (MC : Me P w K mg base CY "check" 4 ["self", "number"] (spCheck CY CW CC)) (MP : Me P w K mg base CY "cheap" 5 ["self"] (spCheap CY CW CC)) (MN : Me P w K mg base CY "near" 5 ["self", "thousandths"] (spNear CY CW CC)) (MM : Me P w K mg base CY "most" 5 ["self"] (spMostM CY CW CC)) :
    FnOk P w K mg base CX0 6 f fd ["yard", "call", "numbers"] (spTo K CY CW CC) := by
  refine F.ok scTo (fun vs H Q E h => ?_) (fun cdv A outer s H vs Q E hr h => ?_)
  · obtain ⟨a, lc, l, y, p, args, q, rfl, _⟩ := h
    rfl
  · obtain ⟨a, lc, l, y, p, args, q, rfl, ht, hl, hY, G, k⟩ := h
    obtain ⟨dy, wa, ha, hW, hR⟩ := hY.ex
    have hr3 : Room 3 _ := hr.mono (by decide)
    have hr4 : Room 4 _ := hr.mono (by decide)
    refine ⟨_, pss_cons (ps_if (pt_cmp (pc_eqI (pv 1) (pe_gi T.gB rfl)) rfl) (pss_one (ps_ret (pe_me (pv 0) T.cY MB hr3 (pa_cons (pv 2) pa_nil)))) pss_nil)
      (pss_cons (ps_if (pt_cmp (pc_eqI (pv 1) (pe_gi T.gC rfl)) rfl) (pss_one (ps_ret (pe_me (pv 0) T.cY MA hr3 (pa_cons (pv 2) pa_nil)))) pss_nil)
      (pss_cons (ps_if (pt_cmp (pc_eqI (pv 1) (pe_gi T.gK rfl)) rfl) (pss_one (ps_ret (pe_me (pv 0) T.cY MC hr4 (pa_cons (pe_ix ix_list (pv 2) pe_int (fun _ _ => rfl)) pa_nil)))) pss_nil)
      (pss_cons (ps_if (pt_cmp (pc_eqI (pv 1) (pe_gi T.gP rfl)) rfl) (pss_one (ps_ret (pe_me0 (pv 0) T.cY MP hr))) pss_nil)
      (pss_cons (ps_if (pt_cmp (pc_eqI (pv 1) (pe_gi T.gN rfl)) rfl) (pss_one (ps_ret (pe_me (pv 0) T.cY MN hr (pa_cons (pe_ix ix_list (pv 2) pe_int (fun _ _ => rfl)) pa_nil)))) pss_nil)
      (pss_one (ps_ret (pe_me0 (pv 0) T.cY MM hr))))))), ?_⟩
    cases ht with
    | begins b0 b1 b2 b3 b4 b5 =>
      refine ⟨_, rfl, _, _, rfl, rfl, _, rfl, ifT (by decide) ?_⟩
      exact ⟨_, rfl, a, dy, _, rfl, ha, yF_no wa lc (by decide +kernel) (by decide +kernel), _, rfl, a, lc, l, y, ⟨b0, b1, b2, b3, b4, b5⟩, rfl, hY, G, hl, k⟩
    | crate b0 b1 b2 b3 =>
      refine ⟨_, rfl, _, _, rfl, rfl, _, rfl, ifF (by decide) ?_⟩
      refine ⟨_, rfl, _, _, rfl, rfl, _, rfl, ifT (by decide) ?_⟩
      exact ⟨_, rfl, a, dy, _, rfl, ha, yF_no wa lc (by decide +kernel) (by decide +kernel), _, rfl, a, lc, l, y, ⟨b0, b1, b2, b3⟩, rfl, hY, G, hl, k⟩
    | check n =>
      refine ⟨_, rfl, _, _, rfl, rfl, _, rfl, ifF (by decide) ?_⟩
      refine ⟨_, rfl, _, _, rfl, rfl, _, rfl, ifF (by decide) ?_⟩
      refine ⟨_, rfl, _, _, rfl, rfl, _, rfl, ifT (by decide) ?_⟩
      exact ⟨_, rfl, a, dy, _, rfl, ha, yF_no wa lc (by decide +kernel) (by decide +kernel), _, rfl, l, _, _, _, rfl, rfl, hl, atI_nat (j := 0) rfl, a, lc, y, n, rfl, hY, G, k⟩
    | cheap =>
      refine ⟨_, rfl, _, _, rfl, rfl, _, rfl, ifF (by decide) ?_⟩
      refine ⟨_, rfl, _, _, rfl, rfl, _, rfl, ifF (by decide) ?_⟩
      refine ⟨_, rfl, _, _, rfl, rfl, _, rfl, ifF (by decide) ?_⟩
      refine ⟨_, rfl, _, _, rfl, rfl, _, rfl, ifT (by decide) ?_⟩
      exact ⟨_, rfl, a, dy, _, rfl, ha, yF_no wa lc (by decide +kernel) (by decide +kernel), a, lc, y, rfl, hY, G, k⟩
    | near n =>
      refine ⟨_, rfl, _, _, rfl, rfl, _, rfl, ifF (by decide) ?_⟩
      refine ⟨_, rfl, _, _, rfl, rfl, _, rfl, ifF (by decide) ?_⟩
      refine ⟨_, rfl, _, _, rfl, rfl, _, rfl, ifF (by decide) ?_⟩
      refine ⟨_, rfl, _, _, rfl, rfl, _, rfl, ifF (by decide) ?_⟩
      refine ⟨_, rfl, _, _, rfl, rfl, _, rfl, ifT (by decide) ?_⟩
      exact ⟨_, rfl, a, dy, _, rfl, ha, yF_no wa lc (by decide +kernel) (by decide +kernel), _, rfl, l, _, _, _, rfl, rfl, hl, atI_nat (j := 0) rfl, a, lc, y, n, rfl, hY, G, k⟩
    | most =>
      refine ⟨_, rfl, _, _, rfl, rfl, _, rfl, ifF (by decide) ?_⟩
      refine ⟨_, rfl, _, _, rfl, rfl, _, rfl, ifF (by decide) ?_⟩
      refine ⟨_, rfl, _, _, rfl, rfl, _, rfl, ifF (by decide) ?_⟩
      refine ⟨_, rfl, _, _, rfl, rfl, _, rfl, ifF (by decide) ?_⟩
      refine ⟨_, rfl, _, _, rfl, rfl, _, rfl, ifF (by decide) ?_⟩
      exact ⟨_, rfl, a, dy, _, rfl, ha, yF_no wa lc (by decide +kernel) (by decide +kernel), a, lc, y, rfl, hY, G, k⟩
theorem scAns : FnScope ["calls", "yard", "told", "place", "call", "end", "answer"] ["calls"] (defScope sAns) := ⟨rfl, rfl, rfl, by decide +kernel, rfl, by decide +kernel, by decide +kernel⟩
theorem ok_ans {f tn : Addr} {fd : FuncData} (F : Fun K "answers" "answers" sAns f fd) (T : Txt K mg CW CC CM CY) (gNB : mg "NUMBERS_BEHIND" = some (.ref tn)) (hNB : ∀ H : Hp, SqT K H tn (behind.map V.int))
    (DY : Kl P w K mg base "Yard" CY 3 ["self"] (spYard CY CW CC)) (DT : Df P w K mg base "answer_to" 6 ["yard", "call", "numbers"] (spTo K CY CW CC)) : FnOk P w K mg base CX0 7 f fd ["calls"] (spAns K) := by
  refine F.ok scAns (fun vs H Q E h => ?_) (fun cdv A outer s H vs Q E hr h => ?_)
  · obtain ⟨c, ns, cs, rfl, _⟩ := h
    rfl
  · obtain ⟨c, ns, cs, rfl, hS, R, k⟩ := h
    have hr4 : Room 4 _ := hr.mono (by decide)
    refine ⟨_, pss_cons (ps_set (i := 1) scAns.nd rfl (.inl rfl) (pe_kl0 DY hr4 rfl))
      (pss_cons (ps_set (i := 2) scAns.nd rfl (.inl rfl) (pe_lst pa_nil))
      (pss_cons (ps_set (i := 3) scAns.nd rfl (.inl rfl) pe_int)
      (pss_cons (ps_while PassesOwn.never (pt_cmpR op_lt (pv 3) (pe_callB call_len_seq (by rfl) T.len PySem.boot_len (pa_cons (pv 0) pa_nil)) (nomark _))
        (pss_cons (ps_set (i := 4) scAns.nd rfl (.inl rfl) (pe_ix ix_list (pv 0) (pv 3) (fun _ _ => rfl)))
        (pss_cons (ps_set (i := 5) scAns.nd rfl (.inl rfl) (pe_op op_add (pe_op op_add (pv 3) pe_int) (pe_ix ix_tup (pe_glob (v := .ref tn) rfl gNB rfl) (pv 4) (fun _ _ => rfl))))
        (pss_cons (ps_set (i := 6) scAns.nd rfl (.inl rfl) (pe_df DT hr rfl (pa_cons (pv 1) (pa_cons (pv 4) (pa_cons (pe_slice sl_list (pv 0) (po_some (pe_op op_add (pv 3) pe_int)) (po_some (pv 5))) pa_nil)))))
        (pss_cons (ps_expr (pe_bm PySem.F.plainAttrs_list PySem.F.slot_list_append PySem.F.type_list_append mt_append (pv 2) (pa_cons (pe_callB call_len_seq (by rfl) T.len PySem.boot_len (pa_cons (pv 6) pa_nil)) pa_nil)))
        (pss_cons (ps_expr (pe_bm PySem.F.plainAttrs_list PySem.F.slot_list_extend PySem.F.type_list_extend mt_extend (pv 2) (pa_cons (pv 6) pa_nil)))
        (pss_one (ps_set (i := 3) scAns.nd rfl (.inl rfl) (pv 5)))))))))
      (pss_one (ps_ret (pv 2)))))), ?_⟩
    -- yard = Yard()
    intro a da na nda nada
    refine ⟨a, da, rfl, upd_same, fun H1 lc b1 n1 Y1 => ⟨rfl, ?_⟩⟩
    have s1 : Same H H1 := made na nda b1
    have nlc : H lc = none := by
      have sx : Same H (upd (upd H da (.own a)) a (.ins CY da [])) := fun b o e => by rw [upd_ne (ne_of_none e na), upd_ne (ne_of_none e nda)]; exact e
      exact sx.free n1
    -- told = []
    refine ⟨Nat.zero_le _, fun t nt => ?_⟩
    have s2 : Same H1 (upd H1 t (.lst [])) := same_upd nt
    have tlc : t ≠ lc := fun e => by
      obtain ⟨dy, wa, _, _, as, hc, _⟩ := Y1.ex
      rw [e, hc] at nt
      cases nt
    refine ⟨fun m σ H' => ∃ (done todo : List (List (List Int))) (y : Sj14.Yard) (o : List Int) (lc : Addr) (v4 v5 v6 : Option V), m = todo.length ∧ cs = done ++ todo ∧
        σ = [some (.ref c), some (.ref a), some (.ref t), some (.int (((flat done).length : Nat) : Int)), v4, v5, v6] ∧ Same H H' ∧ H lc = none ∧ t ≠ lc ∧ H' t = some (.lst (o.map V.int)) ∧ YardAt CY CW CC H' a lc y ∧ Good y ∧
        o ++ due y todo = PySj14.answers ns ∧ o.length ≤ 8 * done.length,
      ⟨cs.length, [], cs, Sj14.init, [], lc, none, none, none, rfl, rfl, rfl, s1.trans s2, nlc, tlc, upd_same, Y1.same s2, good_init, R.due.symm, Nat.le_refl _⟩, ?_⟩
    rintro m σ H2 ⟨done, todo, y, o, lc, v4, v5, v6, rfl, ecs, rfl, s3, nlc, tlc, ht, hY, G, hdue, hol⟩
    have hS2 : SqL K H2 c (ns.map V.int) := s3.seq hS
    have ens : ns = flat done ++ flat todo := by rw [R.lay, ecs, flat_app]
    have nt0 : H t = none := s1.free nt
    have na0 : H a = none := na
    refine ⟨_, rfl, _, rfl, c, _, rfl, .inl hS2, _, _, rfl, rfl, _, rfl, ?_⟩
    cases todo with
    | nil =>
      refine ifF (decide_eq_false ?_) ?_
      · rw [List.length_map, ens]
        show ¬ _ < (((flat done ++ []).length : Nat) : Int)
        rw [List.append_nil]
        omega
      · refine ⟨_, rfl, ?_⟩
        have e0 : due y [] = [] := rfl
        rw [e0, List.append_nil] at hdue
        rw [hdue] at ht
        exact k H2 t ht
    | cons cc rest =>
      have hlaid : Laid cc := R.laid cc (by rw [ecs]; exact List.mem_append_right _ List.mem_cons_self)
      obtain ⟨p, args, q, rfl, hq, hk⟩ := told_of hlaid
      have ens2 : ns = flat done ++ [p] ++ args ++ flat rest := by
        rw [ens, flat_cons]
        show flat done ++ ((p :: args) ++ flat rest) = _
        simp
      have hlen : (ns.map V.int).length = (flat done).length + 1 + args.length + (flat rest).length := by
        rw [List.length_map, ens2, List.length_append, List.length_append, List.length_append, List.length_singleton]
      refine ifT (decide_eq_true ?_) ?_
      · rw [hlen]
        omega
      refine ⟨fun σ' H' => ∃ (y' : Sj14.Yard) (o' : List Int) (lc : Addr) (v4 v5 v6 : Option V), σ' = [some (.ref c), some (.ref a), some (.ref t), some (.int (((flat (done ++ [[p :: args]])).length : Nat) : Int)), v4, v5, v6] ∧ Same H H' ∧ H lc = none ∧ t ≠ lc ∧
        H' t = some (.lst (o'.map V.int)) ∧ YardAt CY CW CC H' a lc y' ∧ Good y' ∧ o' ++ due y' rest = PySj14.answers ns ∧ o'.length ≤ 8 * (done.length + 1), ?_, ?_⟩
      · rintro σ' H' ⟨y', o', lc', w4, w5, w6, rfl, r1, r2, r3, r4, r5, r6, r7, r8⟩
        refine ⟨rest.length, Nat.lt_succ_self _, done ++ [[p :: args]], rest, y', o', lc', w4, w5, w6, rfl, ?_, rfl, r1, r2, r3, r4, r5, r6, r7, ?_⟩
        · rw [ecs, List.append_assoc]
          rfl
        · rw [List.length_append, List.length_singleton]
          exact r8
      · have at1 : (ns.map V.int)[(flat done).length]? = some (.int p) := by
          rw [List.getElem?_map, ens2, List.append_assoc, List.append_assoc, List.getElem?_append_right (Nat.le_refl _), Nat.sub_self]
          rfl
        obtain ⟨j, ej, hj⟩ := told_behind hq
        have hj2 : (behind.map V.int)[j]? = some (.int ((args.length : Nat) : Int)) := by rw [List.getElem?_map, hj]; rfl
        -- call = calls[place]; end = place + 1 + NUMBERS_BEHIND[call]
        refine ⟨_, rfl, _, rfl, c, _, _, _, rfl, rfl, hS2, atI_nat at1, ?_⟩
        refine ⟨_, rfl, _, _, rfl, rfl, _, rfl, tn, _, _, _, rfl, rfl, hNB _, at_of ej hj2, _, _, rfl, rfl, ?_⟩
        -- answer = answer_to(yard, call, calls[place + 1:end])
        refine ⟨_, rfl, _, rfl, _, rfl, _, rfl, _, _, rfl, rfl, _, rfl, _, rfl, _, rfl, c, ns.map V.int, rfl, hS2, fun l nl => ?_⟩
        have ecut : cutV (ns.map V.int) (some ((((flat done).length : Nat) : Int) + 1)) (some ((((flat done).length : Nat) : Int) + 1 + ((args.length : Nat) : Int))) = args.map V.int := by
          have q := cut_mid ((flat done ++ [p]).map V.int) (args.map V.int) ((flat rest).map V.int)
          rw [← List.map_append, ← List.map_append, ← ens2, List.length_map, List.length_map, List.length_append, List.length_singleton] at q
          have z1 : (((flat done).length + 1 : Nat) : Int) = (((flat done).length : Nat) : Int) + 1 := by omega
          have z2 : (((flat done).length + 1 + args.length : Nat) : Int) = (((flat done).length : Nat) : Int) + 1 + ((args.length : Nat) : Int) := by omega
          rw [z1, z2] at q
          exact q
        have sl := same_upd (o := .lst (cutV (ns.map V.int) (some ((((flat done).length : Nat) : Int) + 1)) (some ((((flat done).length : Nat) : Int) + 1 + ((args.length : Nat) : Int))))) nl
        have nta : t ≠ a := by
          obtain ⟨dy, wa, ha, _⟩ := hY.ex
          exact ne_of ht ha (by intro z; cases z)
        refine ⟨a, lc, l, y, p, args, q, rfl, hq, SqL.of (upd_same.trans (by rw [← ecut])), hY.same sl, G, fun H3 p3 lc3 past hlc n3 h3 Y3 => ?_⟩
        have ht3 : H3 t = some (.lst (o.map V.int)) := past _ _ (sl _ _ ht) nta tlc
        have p3t : p3 ≠ t := fun e => by
          have z := sl _ _ ht
          rw [← e] at z
          exact absurd (z.symm.trans n3) (by intro q; cases q)
        have h60 := R.few
        have hd60 : done.length + 1 + rest.length ≤ 60 := by
          rw [ecs, List.length_append] at h60
          simp only [List.length_cons] at h60
          omega
        have ha7 := ans_len y q
        -- told.append(len(answer)); told.extend(answer); place = end
        refine ⟨_, rfl, .inl ⟨rfl, _, SqL.of ht3⟩, _, rfl, p3, _, rfl, .inl (SqL.of h3), t, _, _, rfl, rfl, ht3, small1000 (by rw [List.length_map]; omega), ?_⟩
        refine ⟨_, rfl, .inl ⟨rfl, _, SqL.of upd_same⟩, _, rfl, t, p3, _, _, rfl, rfl, upd_same, (upd_ne p3t).trans h3, ?_, ?_⟩
        · rw [List.length_append, List.length_map, List.length_map, List.length_singleton]
          exact Nat.le_of_lt (small1000 (by omega))
        rw [upd_upd]
        have p4 : SameBut t H3 (upd H3 t (.lst (o.map V.int ++ [V.int ((((ansOf (Sj14.step y q)).map V.int).length : Nat) : Int)] ++ (ansOf (Sj14.step y q)).map V.int))) := SameBut.upd
        have slc3 : H lc3 = none := by
          rcases hlc with e | e
          · rw [e]
            exact nlc
          · exact (s3.trans sl).free e
        have tlc3 : t ≠ lc3 := by
          rcases hlc with e | e
          · rw [e]
            exact tlc
          · exact ne_of_none (sl _ _ ht) e
        have elen : (((flat (done ++ [[p :: args]])).length : Nat) : Int) = (((flat done).length : Nat) : Int) + 1 + ((args.length : Nat) : Int) := by
          rw [flat_app, List.length_append]
          show (((flat done).length + (p :: args ++ []).length : Nat) : Int) = _
          rw [List.append_nil, List.length_cons]
          omega
        refine ⟨_, rfl, (Sj14.step y q).1, o ++ ((((ansOf (Sj14.step y q)).length : Nat) : Int) :: ansOf (Sj14.step y q)), lc3, _, _, _, by rw [elen]; rfl, fun b u e => ?_, slc3, tlc3, ?_, ?_, good_step G q, ?_, ?_⟩
        · exact p4 _ _ (past _ _ (sl _ _ (s3 _ _ e)) (ne_of_none e na0) (ne_of_none e nlc)) (ne_of_none e nt0)
        · rw [upd_same, List.map_append, List.map_cons, List.length_map, List.append_assoc]
          rfl
        · obtain ⟨dy, wa, ha, ⟨dw, t1, t2, t3, w0, w1, w2, w3⟩, as, hc, hcs⟩ := Y3.ex
          refine ⟨dy, wa, p4 _ _ ha (ne_of ha ht3 (by intro z; cases z)), ⟨dw, t1, t2, t3, p4 _ _ w0 (ne_of w0 ht3 (by intro z; cases z)), p4 _ _ w1 (ne_of w1 ht3 (by intro z; cases z)), p4 _ _ w2 (ne_of w2 ht3 (by intro z; cases z)), p4 _ _ w3 (ne_of w3 ht3 (by intro z; cases z))⟩,
            as, p4 _ _ hc tlc3.symm, hcs.imp fun b d ⟨dc, r⟩ => ⟨dc, p4 _ _ r (ne_of r ht3 (by intro z; cases z))⟩⟩
        · rw [due_cons, hk.eq] at hdue
          rw [List.append_assoc]
          exact hdue
        · rw [List.length_append, List.length_cons]
          omega
end
end Scrap

set_option Elab.async false
set_option maxRecDepth 100000
set_option maxHeartbeats 8000000
/-! What the top has written; the row's head. -/
namespace Scrap
open PySem PySem.Spec PyProof.Rows L2
open PySem.W (Codec)
theorem all_mk {P : Program} {w : World} {K : PySem.W.Frag} {h : Heap} {mg : Str → Option Value} {fa CW CC CM CY tn q_w q_c q_m q_y q_yb q_ya q_yk q_yp q_yn q_ym q_f1 q_f2 q_f3 q_f4 q_f5 q_f6 q_f7 q_f8 q_f9 q_g1 q_g2 q_g3 q_g4 q_g5 q_g6 q_g7 q_g8 q_g9 : Addr} (X : K.In h) (G : h.Ns mainGlobals mg) (hfa : mg "answers" = some (.ref fa))
    {od_w an_w od_c an_c od_m an_m od_y an_y od_yb an_yb od_ya an_ya od_yk an_yk od_yp an_yp od_yn an_yn od_ym an_ym od_f1 an_f1 od_f2 an_f2 od_f3 an_f3 od_f4 an_f4 od_f5 an_f5 od_f6 an_f6 od_f7 an_f7 od_f8 an_f8 od_f9 an_f9 od_g1 an_g1 od_g2 an_g2 od_g3 an_g3 od_g4 an_g4 od_g5 an_g5 od_g6 an_g6 od_g7 an_g7 od_g8 an_g8 od_g9 an_g9 odT : Option Addr} {sl_w sl_c sl_m sl_y sl_yb sl_ya sl_yk sl_yp sl_yn sl_ym sl_f1 sl_f2 sl_f3 sl_f4 sl_f5 sl_f6 sl_f7 sl_f8 sl_f9 sl_g1 sl_g2 sl_g3 sl_g4 sl_g5 sl_g6 sl_g7 sl_g8 sl_g9 slT : Array (Option Value)} {oc_w kV_w dc_w pm_w cd_w ct_w oc_c kV_c dc_c pm_c cd_c ct_c oc_m kV_m dc_m pm_m cd_m ct_m oc_y kV_y dc_y pm_y cd_y ct_y oc_yb kV_yb dc_yb pm_yb cd_yb ct_yb oc_ya kV_ya dc_ya pm_ya cd_ya ct_ya oc_yk kV_yk dc_yk pm_yk cd_yk ct_yk oc_yp kV_yp dc_yp pm_yp cd_yp ct_yp oc_yn kV_yn dc_yn pm_yn cd_yn ct_yn oc_ym kV_ym dc_ym pm_ym cd_ym ct_ym oc_f1 kV_f1 dc_f1 pm_f1 cd_f1 ct_f1 oc_f2 kV_f2 dc_f2 pm_f2 cd_f2 ct_f2 oc_f3 kV_f3 dc_f3 pm_f3 cd_f3 ct_f3 oc_f4 kV_f4 dc_f4 pm_f4 cd_f4 ct_f4 oc_f5 kV_f5 dc_f5 pm_f5 cd_f5 ct_f5 oc_f6 kV_f6 dc_f6 pm_f6 cd_f6 ct_f6 oc_f7 kV_f7 dc_f7 pm_f7 cd_f7 ct_f7 oc_f8 kV_f8 dc_f8 pm_f8 cd_f8 ct_f8 oc_f9 kV_f9 dc_f9 pm_f9 cd_f9 ct_f9 oc_g1 kV_g1 dc_g1 pm_g1 cd_g1 ct_g1 oc_g2 kV_g2 dc_g2 pm_g2 cd_g2 ct_g2 oc_g3 kV_g3 dc_g3 pm_g3 cd_g3 ct_g3 oc_g4 kV_g4 dc_g4 pm_g4 cd_g4 ct_g4 oc_g5 kV_g5 dc_g5 pm_g5 cd_g5 ct_g5 oc_g6 kV_g6 dc_g6 pm_g6 cd_g6 ct_g6 oc_g7 kV_g7 dc_g7 pm_g7 cd_g7 ct_g7 oc_g8 kV_g8 dc_g8 pm_g8 cd_g8 ct_g8 oc_g9 kV_g9 dc_g9 pm_g9 cd_g9 ct_g9 : Value} {t_gHC t_gHW t_gWh t_gHP t_gB t_gC t_gK t_gP t_gN t_gT t_gR t_gW t_gM u1 u2 u3 u4 u5 u6 : Tok} {nT : Nat}
    (cW : PySem.W.nsIn K mainGlobals "Wanted" = some (some (.ref CW)))
    (pgW : PySem.W.plainGet K CW Str.empty = true)
    (hdW : PySem.W.hasDictIn K CW = true)
    (poW : PySem.W.plainOver K CW = true)
    (saW : PySem.W.findIn K (.ref CW) "__setattr__" = some (some (.builtin "object.__setattr__")))
    (mkW : PySem.W.makesIn K CW = true)
    (kcW : PySem.W.keepIn K (.ref CW) = true)
    (nW0 : PySem.W.findIn K (.ref CW) "heavy" = some none)
    (nW1 : PySem.W.findIn K (.ref CW) "copper" = some none)
    (nW2 : PySem.W.findIn K (.ref CW) "zinc" = some none)
    (cC : PySem.W.nsIn K mainGlobals "Crate" = some (some (.ref CC)))
    (pgC : PySem.W.plainGet K CC Str.empty = true)
    (hdC : PySem.W.hasDictIn K CC = true)
    (poC : PySem.W.plainOver K CC = true)
    (saC : PySem.W.findIn K (.ref CC) "__setattr__" = some (some (.builtin "object.__setattr__")))
    (mkC : PySem.W.makesIn K CC = true)
    (kcC : PySem.W.keepIn K (.ref CC) = true)
    (nC0 : PySem.W.findIn K (.ref CC) "heavy" = some none)
    (nC1 : PySem.W.findIn K (.ref CC) "copper" = some none)
    (nC2 : PySem.W.findIn K (.ref CC) "zinc" = some none)
    (nC3 : PySem.W.findIn K (.ref CC) "price" = some none)
    (cM : PySem.W.nsIn K mainGlobals "Melt" = some (some (.ref CM)))
    (pgM : PySem.W.plainGet K CM Str.empty = true)
    (hdM : PySem.W.hasDictIn K CM = true)
    (poM : PySem.W.plainOver K CM = true)
    (saM : PySem.W.findIn K (.ref CM) "__setattr__" = some (some (.builtin "object.__setattr__")))
    (mkM : PySem.W.makesIn K CM = true)
    (kcM : PySem.W.keepIn K (.ref CM) = true)
    (nM0 : PySem.W.findIn K (.ref CM) "number" = some none)
    (nM1 : PySem.W.findIn K (.ref CM) "crate_count" = some none)
    (nM2 : PySem.W.findIn K (.ref CM) "heavy" = some none)
    (nM3 : PySem.W.findIn K (.ref CM) "price" = some none)
    (nM4 : PySem.W.findIn K (.ref CM) "weighted_copper" = some none)
    (nM5 : PySem.W.findIn K (.ref CM) "weighted_zinc" = some none)
    (cY : PySem.W.nsIn K mainGlobals "Yard" = some (some (.ref CY)))
    (pgY : PySem.W.plainGet K CY Str.empty = true)
    (hdY : PySem.W.hasDictIn K CY = true)
    (poY : PySem.W.plainOver K CY = true)
    (saY : PySem.W.findIn K (.ref CY) "__setattr__" = some (some (.builtin "object.__setattr__")))
    (mkY : PySem.W.makesIn K CY = true)
    (kcY : PySem.W.keepIn K (.ref CY) = true)
    (nY0 : PySem.W.findIn K (.ref CY) "wanted" = some none)
    (nY1 : PySem.W.findIn K (.ref CY) "crates" = some none)
    (a_w : PySem.W.findIn K (.ref CW) "__init__" = some (some (.ref q_w)))
    (i_w : PySem.W.isFn K (.ref q_w) = true)
    (l_w : K.lookup q_w = some ⟨oc_w, od_w, .func (PySem.W.fnOf "__init__" "Wanted.__init__" (defArgs sWanted) (defBody sWanted) (defScope sWanted) .none kV_w dc_w pm_w an_w cd_w ct_w), sl_w⟩)
    (c_w : PySem.W.codeIn K cd_w "Wanted.__init__" = true)
    (k_w : PySem.W.keepIn K (.ref q_w) = true)
    (a_c : PySem.W.findIn K (.ref CC) "__init__" = some (some (.ref q_c)))
    (i_c : PySem.W.isFn K (.ref q_c) = true)
    (l_c : K.lookup q_c = some ⟨oc_c, od_c, .func (PySem.W.fnOf "__init__" "Crate.__init__" (defArgs sCrate) (defBody sCrate) (defScope sCrate) .none kV_c dc_c pm_c an_c cd_c ct_c), sl_c⟩)
    (c_c : PySem.W.codeIn K cd_c "Crate.__init__" = true)
    (k_c : PySem.W.keepIn K (.ref q_c) = true)
    (a_m : PySem.W.findIn K (.ref CM) "__init__" = some (some (.ref q_m)))
    (i_m : PySem.W.isFn K (.ref q_m) = true)
    (l_m : K.lookup q_m = some ⟨oc_m, od_m, .func (PySem.W.fnOf "__init__" "Melt.__init__" (defArgs sMelt) (defBody sMelt) (defScope sMelt) .none kV_m dc_m pm_m an_m cd_m ct_m), sl_m⟩)
    (c_m : PySem.W.codeIn K cd_m "Melt.__init__" = true)
    (k_m : PySem.W.keepIn K (.ref q_m) = true)
    (a_y : PySem.W.findIn K (.ref CY) "__init__" = some (some (.ref q_y)))
    (i_y : PySem.W.isFn K (.ref q_y) = true)
    (l_y : K.lookup q_y = some ⟨oc_y, od_y, .func (PySem.W.fnOf "__init__" "Yard.__init__" (defArgs sYard) (defBody sYard) (defScope sYard) .none kV_y dc_y pm_y an_y cd_y ct_y), sl_y⟩)
    (c_y : PySem.W.codeIn K cd_y "Yard.__init__" = true)
    (k_y : PySem.W.keepIn K (.ref q_y) = true)
    (a_yb : PySem.W.findIn K (.ref CY) "begins" = some (some (.ref q_yb)))
    (i_yb : PySem.W.isFn K (.ref q_yb) = true)
    (l_yb : K.lookup q_yb = some ⟨oc_yb, od_yb, .func (PySem.W.fnOf "begins" "Yard.begins" (defArgs sBegins) (defBody sBegins) (defScope sBegins) .none kV_yb dc_yb pm_yb an_yb cd_yb ct_yb), sl_yb⟩)
    (c_yb : PySem.W.codeIn K cd_yb "Yard.begins" = true)
    (k_yb : PySem.W.keepIn K (.ref q_yb) = true)
    (a_ya : PySem.W.findIn K (.ref CY) "crate" = some (some (.ref q_ya)))
    (i_ya : PySem.W.isFn K (.ref q_ya) = true)
    (l_ya : K.lookup q_ya = some ⟨oc_ya, od_ya, .func (PySem.W.fnOf "crate" "Yard.crate" (defArgs sAdd) (defBody sAdd) (defScope sAdd) .none kV_ya dc_ya pm_ya an_ya cd_ya ct_ya), sl_ya⟩)
    (c_ya : PySem.W.codeIn K cd_ya "Yard.crate" = true)
    (k_ya : PySem.W.keepIn K (.ref q_ya) = true)
    (a_yk : PySem.W.findIn K (.ref CY) "check" = some (some (.ref q_yk)))
    (i_yk : PySem.W.isFn K (.ref q_yk) = true)
    (l_yk : K.lookup q_yk = some ⟨oc_yk, od_yk, .func (PySem.W.fnOf "check" "Yard.check" (defArgs sCheck) (defBody sCheck) (defScope sCheck) .none kV_yk dc_yk pm_yk an_yk cd_yk ct_yk), sl_yk⟩)
    (c_yk : PySem.W.codeIn K cd_yk "Yard.check" = true)
    (k_yk : PySem.W.keepIn K (.ref q_yk) = true)
    (a_yp : PySem.W.findIn K (.ref CY) "cheap" = some (some (.ref q_yp)))
    (i_yp : PySem.W.isFn K (.ref q_yp) = true)
    (l_yp : K.lookup q_yp = some ⟨oc_yp, od_yp, .func (PySem.W.fnOf "cheap" "Yard.cheap" (defArgs sCheap) (defBody sCheap) (defScope sCheap) .none kV_yp dc_yp pm_yp an_yp cd_yp ct_yp), sl_yp⟩)
    (c_yp : PySem.W.codeIn K cd_yp "Yard.cheap" = true)
    (k_yp : PySem.W.keepIn K (.ref q_yp) = true)
    (a_yn : PySem.W.findIn K (.ref CY) "near" = some (some (.ref q_yn)))
    (i_yn : PySem.W.isFn K (.ref q_yn) = true)
    (l_yn : K.lookup q_yn = some ⟨oc_yn, od_yn, .func (PySem.W.fnOf "near" "Yard.near" (defArgs sNear) (defBody sNear) (defScope sNear) .none kV_yn dc_yn pm_yn an_yn cd_yn ct_yn), sl_yn⟩)
    (c_yn : PySem.W.codeIn K cd_yn "Yard.near" = true)
    (k_yn : PySem.W.keepIn K (.ref q_yn) = true)
    (a_ym : PySem.W.findIn K (.ref CY) "most" = some (some (.ref q_ym)))
    (i_ym : PySem.W.isFn K (.ref q_ym) = true)
    (l_ym : K.lookup q_ym = some ⟨oc_ym, od_ym, .func (PySem.W.fnOf "most" "Yard.most" (defArgs sMostM) (defBody sMostM) (defScope sMostM) .none kV_ym dc_ym pm_ym an_ym cd_ym ct_ym), sl_ym⟩)
    (c_ym : PySem.W.codeIn K cd_ym "Yard.most" = true)
    (k_ym : PySem.W.keepIn K (.ref q_ym) = true)
    (a_f1 : PySem.W.nsIn K mainGlobals "limits_are_as_told" = some (some (.ref q_f1)))
    (l_f1 : K.lookup q_f1 = some ⟨oc_f1, od_f1, .func (PySem.W.fnOf "limits_are_as_told" "limits_are_as_told" (defArgs sLimits) (defBody sLimits) (defScope sLimits) .none kV_f1 dc_f1 pm_f1 an_f1 cd_f1 ct_f1), sl_f1⟩)
    (c_f1 : PySem.W.codeIn K cd_f1 "limits_are_as_told" = true)
    (k_f1 : PySem.W.keepIn K (.ref q_f1) = true)
    (a_f2 : PySem.W.nsIn K mainGlobals "wanted_is_as_told" = some (some (.ref q_f2)))
    (l_f2 : K.lookup q_f2 = some ⟨oc_f2, od_f2, .func (PySem.W.fnOf "wanted_is_as_told" "wanted_is_as_told" (defArgs sWantedOk) (defBody sWantedOk) (defScope sWantedOk) .none kV_f2 dc_f2 pm_f2 an_f2 cd_f2 ct_f2), sl_f2⟩)
    (c_f2 : PySem.W.codeIn K cd_f2 "wanted_is_as_told" = true)
    (k_f2 : PySem.W.keepIn K (.ref q_f2) = true)
    (a_f3 : PySem.W.nsIn K mainGlobals "crate_is_as_told" = some (some (.ref q_f3)))
    (l_f3 : K.lookup q_f3 = some ⟨oc_f3, od_f3, .func (PySem.W.fnOf "crate_is_as_told" "crate_is_as_told" (defArgs sCrateOk) (defBody sCrateOk) (defScope sCrateOk) .none kV_f3 dc_f3 pm_f3 an_f3 cd_f3 ct_f3), sl_f3⟩)
    (c_f3 : PySem.W.codeIn K cd_f3 "crate_is_as_told" = true)
    (k_f3 : PySem.W.keepIn K (.ref q_f3) = true)
    (a_f4 : PySem.W.nsIn K mainGlobals "is_melt" = some (some (.ref q_f4)))
    (l_f4 : K.lookup q_f4 = some ⟨oc_f4, od_f4, .func (PySem.W.fnOf "is_melt" "is_melt" (defArgs sIsMelt) (defBody sIsMelt) (defScope sIsMelt) .none kV_f4 dc_f4 pm_f4 an_f4 cd_f4 ct_f4), sl_f4⟩)
    (c_f4 : PySem.W.codeIn K cd_f4 "is_melt" = true)
    (k_f4 : PySem.W.keepIn K (.ref q_f4) = true)
    (a_f5 : PySem.W.nsIn K mainGlobals "melt_of" = some (some (.ref q_f5)))
    (l_f5 : K.lookup q_f5 = some ⟨oc_f5, od_f5, .func (PySem.W.fnOf "melt_of" "melt_of" (defArgs sMeltOf) (defBody sMeltOf) (defScope sMeltOf) .none kV_f5 dc_f5 pm_f5 an_f5 cd_f5 ct_f5), sl_f5⟩)
    (c_f5 : PySem.W.codeIn K cd_f5 "melt_of" = true)
    (k_f5 : PySem.W.keepIn K (.ref q_f5) = true)
    (a_f6 : PySem.W.nsIn K mainGlobals "within" = some (some (.ref q_f6)))
    (l_f6 : K.lookup q_f6 = some ⟨oc_f6, od_f6, .func (PySem.W.fnOf "within" "within" (defArgs sWithin) (defBody sWithin) (defScope sWithin) .none kV_f6 dc_f6 pm_f6 an_f6 cd_f6 ct_f6), sl_f6⟩)
    (c_f6 : PySem.W.codeIn K cd_f6 "within" = true)
    (k_f6 : PySem.W.keepIn K (.ref q_f6) = true)
    (a_f7 : PySem.W.nsIn K mainGlobals "wrong_with" = some (some (.ref q_f7)))
    (l_f7 : K.lookup q_f7 = some ⟨oc_f7, od_f7, .func (PySem.W.fnOf "wrong_with" "wrong_with" (defArgs sWrong) (defBody sWrong) (defScope sWrong) .none kV_f7 dc_f7 pm_f7 an_f7 cd_f7 ct_f7), sl_f7⟩)
    (c_f7 : PySem.W.codeIn K cd_f7 "wrong_with" = true)
    (k_f7 : PySem.W.keepIn K (.ref q_f7) = true)
    (a_f8 : PySem.W.nsIn K mainGlobals "in_lowest_terms" = some (some (.ref q_f8)))
    (l_f8 : K.lookup q_f8 = some ⟨oc_f8, od_f8, .func (PySem.W.fnOf "in_lowest_terms" "in_lowest_terms" (defArgs sLowest) (defBody sLowest) (defScope sLowest) .none kV_f8 dc_f8 pm_f8 an_f8 cd_f8 ct_f8), sl_f8⟩)
    (c_f8 : PySem.W.codeIn K cd_f8 "in_lowest_terms" = true)
    (k_f8 : PySem.W.keepIn K (.ref q_f8) = true)
    (a_f9 : PySem.W.nsIn K mainGlobals "melts_as_wanted" = some (some (.ref q_f9)))
    (l_f9 : K.lookup q_f9 = some ⟨oc_f9, od_f9, .func (PySem.W.fnOf "melts_as_wanted" "melts_as_wanted" (defArgs sMelts) (defBody sMelts) (defScope sMelts) .none kV_f9 dc_f9 pm_f9 an_f9 cd_f9 ct_f9), sl_f9⟩)
    (c_f9 : PySem.W.codeIn K cd_f9 "melts_as_wanted" = true)
    (k_f9 : PySem.W.keepIn K (.ref q_f9) = true)
    (a_g1 : PySem.W.nsIn K mainGlobals "of_least_price" = some (some (.ref q_g1)))
    (l_g1 : K.lookup q_g1 = some ⟨oc_g1, od_g1, .func (PySem.W.fnOf "of_least_price" "of_least_price" (defArgs sPrice) (defBody sPrice) (defScope sPrice) .none kV_g1 dc_g1 pm_g1 an_g1 cd_g1 ct_g1), sl_g1⟩)
    (c_g1 : PySem.W.codeIn K cd_g1 "of_least_price" = true)
    (k_g1 : PySem.W.keepIn K (.ref q_g1) = true)
    (a_g2 : PySem.W.nsIn K mainGlobals "cheapest" = some (some (.ref q_g2)))
    (l_g2 : K.lookup q_g2 = some ⟨oc_g2, od_g2, .func (PySem.W.fnOf "cheapest" "cheapest" (defArgs sCheapest) (defBody sCheapest) (defScope sCheapest) .none kV_g2 dc_g2 pm_g2 an_g2 cd_g2 ct_g2), sl_g2⟩)
    (c_g2 : PySem.W.codeIn K cd_g2 "cheapest" = true)
    (k_g2 : PySem.W.keepIn K (.ref q_g2) = true)
    (a_g3 : PySem.W.nsIn K mainGlobals "distance" = some (some (.ref q_g3)))
    (l_g3 : K.lookup q_g3 = some ⟨oc_g3, od_g3, .func (PySem.W.fnOf "distance" "distance" (defArgs sDist) (defBody sDist) (defScope sDist) .none kV_g3 dc_g3 pm_g3 an_g3 cd_g3 ct_g3), sl_g3⟩)
    (c_g3 : PySem.W.codeIn K cd_g3 "distance" = true)
    (k_g3 : PySem.W.keepIn K (.ref q_g3) = true)
    (a_g4 : PySem.W.nsIn K mainGlobals "is_less" = some (some (.ref q_g4)))
    (l_g4 : K.lookup q_g4 = some ⟨oc_g4, od_g4, .func (PySem.W.fnOf "is_less" "is_less" (defArgs sLess) (defBody sLess) (defScope sLess) .none kV_g4 dc_g4 pm_g4 an_g4 cd_g4 ct_g4), sl_g4⟩)
    (c_g4 : PySem.W.codeIn K cd_g4 "is_less" = true)
    (k_g4 : PySem.W.keepIn K (.ref q_g4) = true)
    (a_g5 : PySem.W.nsIn K mainGlobals "nearest" = some (some (.ref q_g5)))
    (l_g5 : K.lookup q_g5 = some ⟨oc_g5, od_g5, .func (PySem.W.fnOf "nearest" "nearest" (defArgs sNearest) (defBody sNearest) (defScope sNearest) .none kV_g5 dc_g5 pm_g5 an_g5 cd_g5 ct_g5), sl_g5⟩)
    (c_g5 : PySem.W.codeIn K cd_g5 "nearest" = true)
    (k_g5 : PySem.W.keepIn K (.ref q_g5) = true)
    (a_g6 : PySem.W.nsIn K mainGlobals "with_most_crates" = some (some (.ref q_g6)))
    (l_g6 : K.lookup q_g6 = some ⟨oc_g6, od_g6, .func (PySem.W.fnOf "with_most_crates" "with_most_crates" (defArgs sMost) (defBody sMost) (defScope sMost) .none kV_g6 dc_g6 pm_g6 an_g6 cd_g6 ct_g6), sl_g6⟩)
    (c_g6 : PySem.W.codeIn K cd_g6 "with_most_crates" = true)
    (k_g6 : PySem.W.keepIn K (.ref q_g6) = true)
    (a_g7 : PySem.W.nsIn K mainGlobals "makeup" = some (some (.ref q_g7)))
    (l_g7 : K.lookup q_g7 = some ⟨oc_g7, od_g7, .func (PySem.W.fnOf "makeup" "makeup" (defArgs sMakeup) (defBody sMakeup) (defScope sMakeup) .none kV_g7 dc_g7 pm_g7 an_g7 cd_g7 ct_g7), sl_g7⟩)
    (c_g7 : PySem.W.codeIn K cd_g7 "makeup" = true)
    (k_g7 : PySem.W.keepIn K (.ref q_g7) = true)
    (a_g8 : PySem.W.nsIn K mainGlobals "answer_to" = some (some (.ref q_g8)))
    (l_g8 : K.lookup q_g8 = some ⟨oc_g8, od_g8, .func (PySem.W.fnOf "answer_to" "answer_to" (defArgs sTo) (defBody sTo) (defScope sTo) .none kV_g8 dc_g8 pm_g8 an_g8 cd_g8 ct_g8), sl_g8⟩)
    (c_g8 : PySem.W.codeIn K cd_g8 "answer_to" = true)
    (k_g8 : PySem.W.keepIn K (.ref q_g8) = true)
    (a_g9 : PySem.W.nsIn K mainGlobals "answers" = some (some (.ref q_g9)))
    (l_g9 : K.lookup q_g9 = some ⟨oc_g9, od_g9, .func (PySem.W.fnOf "answers" "answers" (defArgs sAns) (defBody sAns) (defScope sAns) .none kV_g9 dc_g9 pm_g9 an_g9 cd_g9 ct_g9), sl_g9⟩)
    (c_g9 : PySem.W.codeIn K cd_g9 "answers" = true)
    (k_g9 : PySem.W.keepIn K (.ref q_g9) = true)
    (v_gHC : PySem.W.nsIn K mainGlobals "HEAVIEST_CRATE" = some (some (.int 200 t_gHC)))
    (v_gHW : PySem.W.nsIn K mainGlobals "HEAVIEST_WANTED" = some (some (.int 1000 t_gHW)))
    (v_gWh : PySem.W.nsIn K mainGlobals "WHOLE" = some (some (.int 1000 t_gWh)))
    (v_gHP : PySem.W.nsIn K mainGlobals "HIGHEST_PRICE" = some (some (.int 1000 t_gHP)))
    (v_gB : PySem.W.nsIn K mainGlobals "BEGINS" = some (some (.int 0 t_gB)))
    (v_gC : PySem.W.nsIn K mainGlobals "CRATE" = some (some (.int 1 t_gC)))
    (v_gK : PySem.W.nsIn K mainGlobals "CHECK" = some (some (.int 2 t_gK)))
    (v_gP : PySem.W.nsIn K mainGlobals "CHEAP" = some (some (.int 3 t_gP)))
    (v_gN : PySem.W.nsIn K mainGlobals "NEAR" = some (some (.int 4 t_gN)))
    (v_gT : PySem.W.nsIn K mainGlobals "NOT_AS_TOLD" = some (some (.int (-1) t_gT)))
    (v_gR : PySem.W.nsIn K mainGlobals "NO_ROOM" = some (some (.int (-5) t_gR)))
    (v_gW : PySem.W.nsIn K mainGlobals "NOT_AS_WANTED" = some (some (.int (-6) t_gW)))
    (v_gM : PySem.W.nsIn K mainGlobals "MOST_CRATES" = some (some (.int 8 t_gM)))
    (z_len : PySem.W.nsIn K mainGlobals "len" = some none)
    (z_sum : PySem.W.nsIn K mainGlobals "sum" = some none)
    (z_min : PySem.W.nsIn K mainGlobals "min" = some none)
    (z_max : PySem.W.nsIn K mainGlobals "max" = some none)
    (z_abs : PySem.W.nsIn K mainGlobals "abs" = some none)
    (z_enu : PySem.W.nsIn K mainGlobals "enumerate" = some none)
    (nb : PySem.W.nsIn K mainGlobals "NUMBERS_BEHIND" = some (some (.ref tn)))
    (lb : K.lookup tn = some ⟨.type "tuple", odT, .seq #[.int 6 u1, .int 4 u2, .int 1 u3, .int 0 u4, .int 1 u5, .int 0 u6] nT, slT⟩)
    : ∃ fd : FuncData, (∀ (s : Shared) (us : List Value), us.length = (["calls"] : List Str).length → BindsTo s fd ⟨us, []⟩ ((["calls"] : List Str).zip us)) ∧ ∀ base : Heap, K.In base → base.Ns mainGlobals mg → FnOk P w K mg base CX0 7 fa fd ["calls"] (spAns K) := by
  have e := hfa.symm.trans (PySem.W.mg_of X G a_g9)
  cases e
  have T : Txt K mg CW CC CM CY := {
    cW := ⟨pgW, hdW, poW, saW⟩, cC := ⟨pgC, hdC, poC, saC⟩, cM := ⟨pgM, hdM, poM, saM⟩, cY := ⟨pgY, hdY, poY, saY⟩, wH := nW0, wC := nW1, wZ := nW2, kH := nC0, kC := nC1, kZ := nC2, kP := nC3, mN := nM0, mK := nM1, mH := nM2, mP := nM3, mC := nM4, mZ := nM5, yW := nY0, yC := nY1, len := PySem.W.mg_none_of X G z_len, sum := PySem.W.mg_none_of X G z_sum, min := PySem.W.mg_none_of X G z_min, max := PySem.W.mg_none_of X G z_max, abs := PySem.W.mg_none_of X G z_abs, enu := PySem.W.mg_none_of X G z_enu, gHC := ⟨_, PySem.W.mg_of X G v_gHC⟩, gHW := ⟨_, PySem.W.mg_of X G v_gHW⟩, gWh := ⟨_, PySem.W.mg_of X G v_gWh⟩, gHP := ⟨_, PySem.W.mg_of X G v_gHP⟩, gB := ⟨_, PySem.W.mg_of X G v_gB⟩, gC := ⟨_, PySem.W.mg_of X G v_gC⟩, gK := ⟨_, PySem.W.mg_of X G v_gK⟩, gP := ⟨_, PySem.W.mg_of X G v_gP⟩, gN := ⟨_, PySem.W.mg_of X G v_gN⟩, gT := ⟨_, PySem.W.mg_of X G v_gT⟩, gR := ⟨_, PySem.W.mg_of X G v_gR⟩, gW := ⟨_, PySem.W.mg_of X G v_gW⟩, gM := ⟨_, PySem.W.mg_of X G v_gM⟩ }
  have F_w := fun_mk (st := sWanted) l_w c_w k_w
  have b_w := F_w.binds (ps := ["self", "numbers"]) fun _ _ _ _ _ _ us hl => match us, hl with | [_, _], _ => rfl
  have F_c := fun_mk (st := sCrate) l_c c_c k_c
  have b_c := F_c.binds (ps := ["self", "numbers"]) fun _ _ _ _ _ _ us hl => match us, hl with | [_, _], _ => rfl
  have F_m := fun_mk (st := sMelt) l_m c_m k_m
  have b_m := F_m.binds (ps := ["self", "number", "crates"]) fun _ _ _ _ _ _ us hl => match us, hl with | [_, _, _], _ => rfl
  have F_y := fun_mk (st := sYard) l_y c_y k_y
  have b_y := F_y.binds (ps := ["self"]) fun _ _ _ _ _ _ us hl => match us, hl with | [_], _ => rfl
  have F_yb := fun_mk (st := sBegins) l_yb c_yb k_yb
  have b_yb := F_yb.binds (ps := ["self", "numbers"]) fun _ _ _ _ _ _ us hl => match us, hl with | [_, _], _ => rfl
  have F_ya := fun_mk (st := sAdd) l_ya c_ya k_ya
  have b_ya := F_ya.binds (ps := ["self", "numbers"]) fun _ _ _ _ _ _ us hl => match us, hl with | [_, _], _ => rfl
  have F_yk := fun_mk (st := sCheck) l_yk c_yk k_yk
  have b_yk := F_yk.binds (ps := ["self", "number"]) fun _ _ _ _ _ _ us hl => match us, hl with | [_, _], _ => rfl
  have F_yp := fun_mk (st := sCheap) l_yp c_yp k_yp
  have b_yp := F_yp.binds (ps := ["self"]) fun _ _ _ _ _ _ us hl => match us, hl with | [_], _ => rfl
  have F_yn := fun_mk (st := sNear) l_yn c_yn k_yn
  have b_yn := F_yn.binds (ps := ["self", "thousandths"]) fun _ _ _ _ _ _ us hl => match us, hl with | [_, _], _ => rfl
  have F_ym := fun_mk (st := sMostM) l_ym c_ym k_ym
  have b_ym := F_ym.binds (ps := ["self"]) fun _ _ _ _ _ _ us hl => match us, hl with | [_], _ => rfl
  have F_f1 := fun_mk (st := sLimits) l_f1 c_f1 k_f1
  have b_f1 := F_f1.binds (ps := ["limits", "lowest", "highest"]) fun _ _ _ _ _ _ us hl => match us, hl with | [_, _, _], _ => rfl
  have F_f2 := fun_mk (st := sWantedOk) l_f2 c_f2 k_f2
  have b_f2 := F_f2.binds (ps := ["wanted"]) fun _ _ _ _ _ _ us hl => match us, hl with | [_], _ => rfl
  have F_f3 := fun_mk (st := sCrateOk) l_f3 c_f3 k_f3
  have b_f3 := F_f3.binds (ps := ["crate"]) fun _ _ _ _ _ _ us hl => match us, hl with | [_], _ => rfl
  have F_f4 := fun_mk (st := sIsMelt) l_f4 c_f4 k_f4
  have b_f4 := F_f4.binds (ps := ["crates", "number"]) fun _ _ _ _ _ _ us hl => match us, hl with | [_, _], _ => rfl
  have F_f5 := fun_mk (st := sMeltOf) l_f5 c_f5 k_f5
  have b_f5 := F_f5.binds (ps := ["crates", "number"]) fun _ _ _ _ _ _ us hl => match us, hl with | [_, _], _ => rfl
  have F_f6 := fun_mk (st := sWithin) l_f6 c_f6 k_f6
  have b_f6 := F_f6.binds (ps := ["weighted", "weight", "limits"]) fun _ _ _ _ _ _ us hl => match us, hl with | [_, _, _], _ => rfl
  have F_f7 := fun_mk (st := sWrong) l_f7 c_f7 k_f7
  have b_f7 := F_f7.binds (ps := ["melt", "wanted"]) fun _ _ _ _ _ _ us hl => match us, hl with | [_, _], _ => rfl
  have F_f8 := fun_mk (st := sLowest) l_f8 c_f8 k_f8
  have b_f8 := F_f8.binds (ps := ["above", "below"]) fun _ _ _ _ _ _ us hl => match us, hl with | [_, _], _ => rfl
  have F_f9 := fun_mk (st := sMelts) l_f9 c_f9 k_f9
  have b_f9 := F_f9.binds (ps := ["crates", "wanted"]) fun _ _ _ _ _ _ us hl => match us, hl with | [_, _], _ => rfl
  have F_g1 := fun_mk (st := sPrice) l_g1 c_g1 k_g1
  have b_g1 := F_g1.binds (ps := ["melts"]) fun _ _ _ _ _ _ us hl => match us, hl with | [_], _ => rfl
  have F_g2 := fun_mk (st := sCheapest) l_g2 c_g2 k_g2
  have b_g2 := F_g2.binds (ps := ["melts"]) fun _ _ _ _ _ _ us hl => match us, hl with | [_], _ => rfl
  have F_g3 := fun_mk (st := sDist) l_g3 c_g3 k_g3
  have b_g3 := F_g3.binds (ps := ["melt", "thousandths"]) fun _ _ _ _ _ _ us hl => match us, hl with | [_, _], _ => rfl
  have F_g4 := fun_mk (st := sLess) l_g4 c_g4 k_g4
  have b_g4 := F_g4.binds (ps := ["fraction", "other"]) fun _ _ _ _ _ _ us hl => match us, hl with | [_, _], _ => rfl
  have F_g5 := fun_mk (st := sNearest) l_g5 c_g5 k_g5
  have b_g5 := F_g5.binds (ps := ["melts", "thousandths"]) fun _ _ _ _ _ _ us hl => match us, hl with | [_, _], _ => rfl
  have F_g6 := fun_mk (st := sMost) l_g6 c_g6 k_g6
  have b_g6 := F_g6.binds (ps := ["melts"]) fun _ _ _ _ _ _ us hl => match us, hl with | [_], _ => rfl
  have F_g7 := fun_mk (st := sMakeup) l_g7 c_g7 k_g7
  have b_g7 := F_g7.binds (ps := ["melt"]) fun _ _ _ _ _ _ us hl => match us, hl with | [_], _ => rfl
  have F_g8 := fun_mk (st := sTo) l_g8 c_g8 k_g8
  have b_g8 := F_g8.binds (ps := ["yard", "call", "numbers"]) fun _ _ _ _ _ _ us hl => match us, hl with | [_, _, _], _ => rfl
  have F_g9 := fun_mk (st := sAns) l_g9 c_g9 k_g9
  refine ⟨PySem.W.fnOf "answers" "answers" (defArgs sAns) (defBody sAns) (defScope sAns) .none kV_g9 dc_g9 pm_g9 an_g9 cd_g9 ct_g9, fun s us hu => match us, hu with | [_], _ => .of_eq rfl, fun base _ _ => ?_⟩
  have L_W : Kl P w K mg base "Wanted" CW 1 ["self", "numbers"] (spWanted K CW) := ⟨_, _, PySem.W.mg_of X G cW, ok_wanted F_w T, ⟨mkW, a_w, i_w, kcW⟩, b_w⟩
  have L_C : Kl P w K mg base "Crate" CC 1 ["self", "numbers"] (spCrate K CC) := ⟨_, _, PySem.W.mg_of X G cC, ok_crate F_c T, ⟨mkC, a_c, i_c, kcC⟩, b_c⟩
  have L_M : Kl P w K mg base "Melt" CM 1 ["self", "number", "crates"] (spMelt CM CC) := ⟨_, _, PySem.W.mg_of X G cM, ok_melt F_m T, ⟨mkM, a_m, i_m, kcM⟩, b_m⟩
  have D_f1 : Df P w K mg base "limits_are_as_told" 1 ["limits", "lowest", "highest"] (spLimits K) := ⟨_, _, PySem.W.mg_of X G a_f1, ok_limits F_f1, k_f1, b_f1⟩
  have D_f2 : Df P w K mg base "wanted_is_as_told" 2 ["wanted"] (spWantedOk CW) := ⟨_, _, PySem.W.mg_of X G a_f2, ok_wantedOk F_f2 T D_f1, k_f2, b_f2⟩
  have D_f3 : Df P w K mg base "crate_is_as_told" 1 ["crate"] (spCrateOk CC) := ⟨_, _, PySem.W.mg_of X G a_f3, ok_crateOk F_f3 T, k_f3, b_f3⟩
  have D_f4 : Df P w K mg base "is_melt" 1 ["crates", "number"] (spIsMelt K) := ⟨_, _, PySem.W.mg_of X G a_f4, ok_isMelt F_f4 T, k_f4, b_f4⟩
  have D_f5 : Df P w K mg base "melt_of" 3 ["crates", "number"] (spMeltOf CM CC) := ⟨_, _, PySem.W.mg_of X G a_f5, ok_meltOf F_f5 T L_M, k_f5, b_f5⟩
  have D_f6 : Df P w K mg base "within" 1 ["weighted", "weight", "limits"] (spWithin K) := ⟨_, _, PySem.W.mg_of X G a_f6, ok_within F_f6, k_f6, b_f6⟩
  have D_f7 : Df P w K mg base "wrong_with" 2 ["melt", "wanted"] (spWrong CM CW) := ⟨_, _, PySem.W.mg_of X G a_f7, ok_wrong F_f7 T D_f6, k_f7, b_f7⟩
  have D_f8 : Df P w K mg base "in_lowest_terms" 1 ["above", "below"] (spLowest) := ⟨_, _, PySem.W.mg_of X G a_f8, ok_lowest F_f8, k_f8, b_f8⟩
  have D_f9 : Df P w K mg base "melts_as_wanted" 4 ["crates", "wanted"] (spMelts CC CW CM) := ⟨_, _, PySem.W.mg_of X G a_f9, ok_melts F_f9 D_f4 D_f5 D_f7, k_f9, b_f9⟩
  have D_g1 : Df P w K mg base "of_least_price" 1 ["melts"] (spPick CM fun y ss => mins (ltPrice y) ss) := ⟨_, _, PySem.W.mg_of X G a_g1, ok_price F_g1 T, k_g1, b_g1⟩
  have D_g2 : Df P w K mg base "cheapest" 2 ["melts"] (spPick CM cheapL) := ⟨_, _, PySem.W.mg_of X G a_g2, ok_cheapest F_g2 T D_g1, k_g2, b_g2⟩
  have D_g3 : Df P w K mg base "distance" 2 ["melt", "thousandths"] (spDist CM) := ⟨_, _, PySem.W.mg_of X G a_g3, ok_dist F_g3 T D_f8, k_g3, b_g3⟩
  have D_g4 : Df P w K mg base "is_less" 1 ["fraction", "other"] (spLess K) := ⟨_, _, PySem.W.mg_of X G a_g4, ok_less F_g4, k_g4, b_g4⟩
  have D_g5 : Df P w K mg base "nearest" 3 ["melts", "thousandths"] (spNearest CM) := ⟨_, _, PySem.W.mg_of X G a_g5, ok_nearest F_g5 T D_g1 D_g3 D_g4, k_g5, b_g5⟩
  have D_g6 : Df P w K mg base "with_most_crates" 1 ["melts"] (spPick CM mostL) := ⟨_, _, PySem.W.mg_of X G a_g6, ok_most F_g6 T, k_g6, b_g6⟩
  have D_g7 : Df P w K mg base "makeup" 2 ["melt"] (spMakeup CM) := ⟨_, _, PySem.W.mg_of X G a_g7, ok_makeup F_g7 T D_f8, k_g7, b_g7⟩
  have M_yb : Me P w K mg base CY "begins" 3 ["self", "numbers"] (spBegins K CY CW CC) := ⟨_, _, ⟨a_yb, i_yb, k_yb⟩, ok_begins F_yb T L_W D_f2, b_yb⟩
  have M_ya : Me P w K mg base CY "crate" 3 ["self", "numbers"] (spAdd K CY CW CC) := ⟨_, _, ⟨a_ya, i_ya, k_ya⟩, ok_add F_ya T L_C D_f3, b_ya⟩
  have M_yk : Me P w K mg base CY "check" 4 ["self", "number"] (spCheck CY CW CC) := ⟨_, _, ⟨a_yk, i_yk, k_yk⟩, ok_check F_yk T D_f4 D_f5 D_f7 D_g7, b_yk⟩
  have M_yp : Me P w K mg base CY "cheap" 5 ["self"] (spCheap CY CW CC) := ⟨_, _, ⟨a_yp, i_yp, k_yp⟩, ok_cheap F_yp T D_f9 D_g2, b_yp⟩
  have M_yn : Me P w K mg base CY "near" 5 ["self", "thousandths"] (spNear CY CW CC) := ⟨_, _, ⟨a_yn, i_yn, k_yn⟩, ok_near F_yn T D_f9 D_g5 D_g3, b_yn⟩
  have M_ym : Me P w K mg base CY "most" 5 ["self"] (spMostM CY CW CC) := ⟨_, _, ⟨a_ym, i_ym, k_ym⟩, ok_mostM F_ym T D_f9 D_g6, b_ym⟩
  have L_Y : Kl P w K mg base "Yard" CY 3 ["self"] (spYard CY CW CC) := ⟨_, _, PySem.W.mg_of X G cY, ok_yard F_y T L_W, ⟨mkY, a_y, i_y, kcY⟩, b_y⟩
  have D_g8 : Df P w K mg base "answer_to" 6 ["yard", "call", "numbers"] (spTo K CY CW CC) := ⟨_, _, PySem.W.mg_of X G a_g8, ok_to F_g8 T M_yb M_ya M_yk M_yp M_yn M_ym, k_g8, b_g8⟩
  exact ok_ans F_g9 T (PySem.W.mg_of X G nb) (fun _ => .inr ⟨_, _, _, lb, rfl, rfl, (by show 6 ≤ sizeLine; decide), .cons ⟨_, rfl⟩ (.cons ⟨_, rfl⟩ (.cons ⟨_, rfl⟩ (.cons ⟨_, rfl⟩ (.cons ⟨_, rfl⟩ (.cons ⟨_, rfl⟩ .nil)))))⟩) L_Y D_g8
end Scrap

set_option Elab.async false

open PySem PySem.W PyProof.Rows
set_option maxRecDepth 100000 in
set_option maxHeartbeats 0 in
theorem PySem.Challenge.cw_scrapcrates_s01_answers_holds : PySem.Challenge.rw_scrapcrates_s01_answers.Holds := by
  w_on; k_headS; (case hw => exact ⟨[.list [.int 3]], by decide +kernel, by decide +kernel⟩)
  k_fillS
  refine L2.walk_specK (r := PySem.Challenge.rw_scrapcrates_s01_answers) (k := 7) (CX := L2.CX0) (ps := ["calls"]) (sp := Scrap.spAns) (by decide +kernel) rfl rfl ⟨rfl, by decide, by decide⟩ (fun w h Y => PySem.W.kIn_of Y) ?F ?S (fun _ _ _ _ z => z)
  case F =>
    intro w mg fa h Y KX G hmg
    refine' Scrap.all_mk KX G hmg ?cW ?pgW ?hdW ?poW ?saW ?mkW ?kcW ?nW0 ?nW1 ?nW2 ?cC ?pgC ?hdC ?poC ?saC ?mkC ?kcC ?nC0 ?nC1 ?nC2 ?nC3 ?cM ?pgM ?hdM ?poM ?saM ?mkM ?kcM ?nM0 ?nM1 ?nM2 ?nM3 ?nM4 ?nM5 ?cY ?pgY ?hdY ?poY ?saY ?mkY ?kcY ?nY0 ?nY1 ?a_w ?i_w ?l_w ?c_w ?k_w ?a_c ?i_c ?l_c ?c_c ?k_c ?a_m ?i_m ?l_m ?c_m ?k_m ?a_y ?i_y ?l_y ?c_y ?k_y ?a_yb ?i_yb ?l_yb ?c_yb ?k_yb ?a_ya ?i_ya ?l_ya ?c_ya ?k_ya ?a_yk ?i_yk ?l_yk ?c_yk ?k_yk ?a_yp ?i_yp ?l_yp ?c_yp ?k_yp ?a_yn ?i_yn ?l_yn ?c_yn ?k_yn ?a_ym ?i_ym ?l_ym ?c_ym ?k_ym ?a_f1 ?l_f1 ?c_f1 ?k_f1 ?a_f2 ?l_f2 ?c_f2 ?k_f2 ?a_f3 ?l_f3 ?c_f3 ?k_f3 ?a_f4 ?l_f4 ?c_f4 ?k_f4 ?a_f5 ?l_f5 ?c_f5 ?k_f5 ?a_f6 ?l_f6 ?c_f6 ?k_f6 ?a_f7 ?l_f7 ?c_f7 ?k_f7 ?a_f8 ?l_f8 ?c_f8 ?k_f8 ?a_f9 ?l_f9 ?c_f9 ?k_f9 ?a_g1 ?l_g1 ?c_g1 ?k_g1 ?a_g2 ?l_g2 ?c_g2 ?k_g2 ?a_g3 ?l_g3 ?c_g3 ?k_g3 ?a_g4 ?l_g4 ?c_g4 ?k_g4 ?a_g5 ?l_g5 ?c_g5 ?k_g5 ?a_g6 ?l_g6 ?c_g6 ?k_g6 ?a_g7 ?l_g7 ?c_g7 ?k_g7 ?a_g8 ?l_g8 ?c_g8 ?k_g8 ?a_g9 ?l_g9 ?c_g9 ?k_g9 ?v_gHC ?v_gHW ?v_gWh ?v_gHP ?v_gB ?v_gC ?v_gK ?v_gP ?v_gN ?v_gT ?v_gR ?v_gW ?v_gM ?z_len ?z_sum ?z_min ?z_max ?z_abs ?z_enu ?nb ?lb
    (case cW => k_is)
    (case pgW => k_is)
    (case hdW => k_is)
    (case poW => k_is)
    (case saW => k_is)
    (case mkW => k_is)
    (case kcW => k_is)
    (case nW0 => k_is)
    (case nW1 => k_is)
    (case nW2 => k_is)
    (case cC => k_is)
    (case pgC => k_is)
    (case hdC => k_is)
    (case poC => k_is)
    (case saC => k_is)
    (case mkC => k_is)
    (case kcC => k_is)
    (case nC0 => k_is)
    (case nC1 => k_is)
    (case nC2 => k_is)
    (case nC3 => k_is)
    (case cM => k_is)
    (case pgM => k_is)
    (case hdM => k_is)
    (case poM => k_is)
    (case saM => k_is)
    (case mkM => k_is)
    (case kcM => k_is)
    (case nM0 => k_is)
    (case nM1 => k_is)
    (case nM2 => k_is)
    (case nM3 => k_is)
    (case nM4 => k_is)
    (case nM5 => k_is)
    (case cY => k_is)
    (case pgY => k_is)
    (case hdY => k_is)
    (case poY => k_is)
    (case saY => k_is)
    (case mkY => k_is)
    (case kcY => k_is)
    (case nY0 => k_is)
    (case nY1 => k_is)
    (case a_w => k_is)
    (case i_w => k_is)
    (case l_w => k_is)
    (case c_w => k_is)
    (case k_w => k_is)
    (case a_c => k_is)
    (case i_c => k_is)
    (case l_c => k_is)
    (case c_c => k_is)
    (case k_c => k_is)
    (case a_m => k_is)
    (case i_m => k_is)
    (case l_m => k_is)
    (case c_m => k_is)
    (case k_m => k_is)
    (case a_y => k_is)
    (case i_y => k_is)
    (case l_y => k_is)
    (case c_y => k_is)
    (case k_y => k_is)
    (case a_yb => k_is)
    (case i_yb => k_is)
    (case l_yb => k_is)
    (case c_yb => k_is)
    (case k_yb => k_is)
    (case a_ya => k_is)
    (case i_ya => k_is)
    (case l_ya => k_is)
    (case c_ya => k_is)
    (case k_ya => k_is)
    (case a_yk => k_is)
    (case i_yk => k_is)
    (case l_yk => k_is)
    (case c_yk => k_is)
    (case k_yk => k_is)
    (case a_yp => k_is)
    (case i_yp => k_is)
    (case l_yp => k_is)
    (case c_yp => k_is)
    (case k_yp => k_is)
    (case a_yn => k_is)
    (case i_yn => k_is)
    (case l_yn => k_is)
    (case c_yn => k_is)
    (case k_yn => k_is)
    (case a_ym => k_is)
    (case i_ym => k_is)
    (case l_ym => k_is)
    (case c_ym => k_is)
    (case k_ym => k_is)
    (case a_f1 => k_is)
    (case l_f1 => k_is)
    (case c_f1 => k_is)
    (case k_f1 => k_is)
    (case a_f2 => k_is)
    (case l_f2 => k_is)
    (case c_f2 => k_is)
    (case k_f2 => k_is)
    (case a_f3 => k_is)
    (case l_f3 => k_is)
    (case c_f3 => k_is)
    (case k_f3 => k_is)
    (case a_f4 => k_is)
    (case l_f4 => k_is)
    (case c_f4 => k_is)
    (case k_f4 => k_is)
    (case a_f5 => k_is)
    (case l_f5 => k_is)
    (case c_f5 => k_is)
    (case k_f5 => k_is)
    (case a_f6 => k_is)
    (case l_f6 => k_is)
    (case c_f6 => k_is)
    (case k_f6 => k_is)
    (case a_f7 => k_is)
    (case l_f7 => k_is)
    (case c_f7 => k_is)
    (case k_f7 => k_is)
    (case a_f8 => k_is)
    (case l_f8 => k_is)
    (case c_f8 => k_is)
    (case k_f8 => k_is)
    (case a_f9 => k_is)
    (case l_f9 => k_is)
    (case c_f9 => k_is)
    (case k_f9 => k_is)
    (case a_g1 => k_is)
    (case l_g1 => k_is)
    (case c_g1 => k_is)
    (case k_g1 => k_is)
    (case a_g2 => k_is)
    (case l_g2 => k_is)
    (case c_g2 => k_is)
    (case k_g2 => k_is)
    (case a_g3 => k_is)
    (case l_g3 => k_is)
    (case c_g3 => k_is)
    (case k_g3 => k_is)
    (case a_g4 => k_is)
    (case l_g4 => k_is)
    (case c_g4 => k_is)
    (case k_g4 => k_is)
    (case a_g5 => k_is)
    (case l_g5 => k_is)
    (case c_g5 => k_is)
    (case k_g5 => k_is)
    (case a_g6 => k_is)
    (case l_g6 => k_is)
    (case c_g6 => k_is)
    (case k_g6 => k_is)
    (case a_g7 => k_is)
    (case l_g7 => k_is)
    (case c_g7 => k_is)
    (case k_g7 => k_is)
    (case a_g8 => k_is)
    (case l_g8 => k_is)
    (case c_g8 => k_is)
    (case k_g8 => k_is)
    (case a_g9 => k_is)
    (case l_g9 => k_is)
    (case c_g9 => k_is)
    (case k_g9 => k_is)
    (case v_gHC => k_is)
    (case v_gHW => k_is)
    (case v_gWh => k_is)
    (case v_gHP => k_is)
    (case v_gB => k_is)
    (case v_gC => k_is)
    (case v_gK => k_is)
    (case v_gP => k_is)
    (case v_gN => k_is)
    (case v_gT => k_is)
    (case v_gR => k_is)
    (case v_gW => k_is)
    (case v_gM => k_is)
    (case z_len => k_is)
    (case z_sum => k_is)
    (case z_min => k_is)
    (case z_max => k_is)
    (case z_abs => k_is)
    (case z_enu => k_is)
    (case nb => k_is)
    (case lb => k_is)
  case S =>
    intro K H xs a hO hwi hask hx
    cases hx with
    | cons h1 h2 =>
      cases h2
      cases h1 with
      | lst hs ha =>
        have e := L2.ints_dw a.1 _ ha
        subst e
        have hask' : PySj14.answers_asked a.1 = true := hask
        obtain ⟨cs, R⟩ := Scrap.req_of hask'
        exact ⟨_, a.1, cs, rfl, hs, R, fun H' p hp => .lst (L2.SqL.of hp) (L2.dw_ints _)⟩
