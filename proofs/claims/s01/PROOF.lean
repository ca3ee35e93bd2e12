import PyProof.Rows.All
import KE.OsGo
import PySem.Challenge.RW_readingstold_s01_answers
set_option Elab.async false
section
namespace My

theorem two_pos (e : Nat) : 0 < 2 ^ e := Nat.pow_pos (by decide)

/-- bits of a natural number -/
def bits (q : Nat) : Nat := if q = 0 then 0 else Nat.log2 q + 1

theorem log2_lt {q k : Nat} (hq : q ≠ 0) : Nat.log2 q < k ↔ q < 2 ^ k := Nat.log2_lt hq
theorem le_log2 {q k : Nat} (hq : q ≠ 0) : k ≤ Nat.log2 q ↔ 2 ^ k ≤ q := Nat.le_log2 hq

theorem shift_eq (q : Nat) : bits q - 53 = if q < 2 ^ 53 then 0 else Nat.log2 q - 52 := by
  unfold bits
  by_cases hq : q = 0
  · subst hq; decide
  · rw [if_neg hq]
    by_cases h : q < 2 ^ 53
    · rw [if_pos h]
      have := (log2_lt (k := 53) hq).mpr h
      omega
    · rw [if_neg h]; omega

/-- the program's rounding -/
def nearP (n d : Nat) : Nat :=
  let whole := n / d
  let dropped := bits whole - 53
  let step := d * 2 ^ dropped
  let kept := n / step
  let twice := 2 * (n - kept * step)
  let kept2 := if step < twice ∨ (twice = step ∧ kept % 2 = 1) then kept + 1 else kept
  min (dropped * 2 ^ 52 + kept2) Kg05.INFINITY

theorem rounded_eq (n s : Nat) : (if s < 2 * (n - n / s * s) ∨ (2 * (n - n / s * s) = s ∧ n / s % 2 = 1) then n / s + 1 else n / s) = Kg05.rounded n s := by
  have e : n - n / s * s = n % s := by
    have := Nat.div_add_mod n s
    rw [Nat.mul_comm] at this
    omega
  unfold Kg05.rounded
  rw [e]
  dsimp only
  generalize n % s = r
  generalize n / s = q
  by_cases h1 : 2 * r < s
  · rw [if_pos h1, if_neg (by omega)]
  · rw [if_neg h1]
    by_cases h2 : s < 2 * r
    · rw [if_pos h2, if_pos (by omega)]
    · rw [if_neg h2]
      by_cases h3 : q % 2 = 1
      · rw [if_pos (by omega)]; omega
      · rw [if_neg (by omega)]; omega

theorem nearP_eq (n d : Nat) : nearP n d = Kg05.near n d := by
  unfold nearP Kg05.near
  dsimp only
  rw [rounded_eq, shift_eq, Nat.min_comm]

theorem near_le (n d : Nat) : Kg05.near n d ≤ Kg05.INFINITY := by
  unfold Kg05.near
  dsimp only
  exact Nat.min_le_left _ _
theorem near_lt (n d : Nat) : Kg05.near n d < 2 ^ 63 := Nat.lt_of_le_of_lt (near_le n d) (by decide)

/-- scaling both sides -/
theorem rounded_mul (n d c : Nat) (hc : 0 < c) : Kg05.rounded (n * c) (d * c) = Kg05.rounded n d := by
  unfold Kg05.rounded
  dsimp only
  rw [Nat.mul_div_mul_right _ _ hc, Nat.mul_mod_mul_right]
  have e1 : (2 * (n % d * c) < d * c) ↔ (2 * (n % d) < d) := by
    rw [← Nat.mul_assoc]; exact Nat.mul_lt_mul_right hc
  have e2 : (d * c < 2 * (n % d * c)) ↔ (d < 2 * (n % d)) := by
    rw [← Nat.mul_assoc]; exact Nat.mul_lt_mul_right hc
  simp only [e1, e2]
theorem near_mul (n d c : Nat) (hc : 0 < c) : Kg05.near (n * c) (d * c) = Kg05.near n d := by
  unfold Kg05.near
  dsimp only
  rw [Nat.mul_div_mul_right _ _ hc]
  have : ∀ e, d * c * 2 ^ e = d * 2 ^ e * c := fun e => by rw [Nat.mul_assoc, Nat.mul_assoc, Nat.mul_comm c]
  rw [this, rounded_mul _ _ _ hc]

theorem rounded_exact (k s : Nat) (hs : 0 < s) : Kg05.rounded (k * s) s = k := by
  unfold Kg05.rounded
  dsimp only
  rw [Nat.mul_div_cancel _ hs, Nat.mul_mod_left, if_pos (by omega)]

theorem log2_of {q k : Nat} (h0 : 2 ^ k ≤ q) (h1 : q < 2 ^ (k + 1)) : Nat.log2 q = k := by
  have hq : q ≠ 0 := by have := two_pos k; omega
  have a := (le_log2 (k := k) hq).mpr h0
  have b := (log2_lt (k := k + 1) hq).mpr h1
  omega
theorem log2_mul_pow (k e : Nat) (hk : k ≠ 0) : Nat.log2 (k * 2 ^ e) = Nat.log2 k + e := by
  apply log2_of
  · rw [Nat.pow_add]
    exact Nat.mul_le_mul_right _ ((le_log2 hk).mp (Nat.le_refl _))
  · rw [show Nat.log2 k + e + 1 = Nat.log2 k + 1 + e by omega, Nat.pow_add]
    exact Nat.mul_lt_mul_of_pos_right ((log2_lt hk).mp (Nat.lt_succ_self _)) (two_pos e)

theorem near_exact (k e : Nat) (h0 : 2 ^ 52 ≤ k) (h1 : k < 2 ^ 53) : Kg05.near (k * 2 ^ e) 1 = min Kg05.INFINITY (e * 2 ^ 52 + k) := by
  have hk : k ≠ 0 := by omega
  have hl : Nat.log2 k = 52 := by
    have a := (le_log2 (k := 52) hk).mpr h0
    have b := (log2_lt (k := 53) hk).mpr h1
    omega
  unfold Kg05.near
  dsimp only
  rw [Nat.div_one, Nat.one_mul]
  by_cases h : k * 2 ^ e < 2 ^ 53
  · have he : e = 0 := by
      rcases Nat.eq_zero_or_pos e with h' | h'
      · exact h'
      · exfalso
        have : 2 ^ 1 ≤ 2 ^ e := Nat.pow_le_pow_right (by decide) h'
        have : k * 2 ^ 1 ≤ k * 2 ^ e := Nat.mul_le_mul_left _ this
        omega
    subst he
    rw [if_pos h, rounded_exact _ _ (two_pos _)]
  · rw [if_neg h, log2_mul_pow _ _ hk, hl, show 52 + e - 52 = e by omega, rounded_exact _ _ (two_pos _)]

theorem scale_of (e k : Nat) (h0 : 2 ^ 52 ≤ k) (h1 : k < 2 ^ 53) : Kg05.scale (e * 2 ^ 52 + k) = k * 2 ^ e := by
  unfold Kg05.scale
  have a : (e * 2 ^ 52 + k) / 2 ^ 52 = e + 1 := by omega
  have b : (e * 2 ^ 52 + k) % 2 ^ 52 = k - 2 ^ 52 := by omega
  rw [a, b, if_neg (by omega), show 2 ^ 52 + (k - 2 ^ 52) = k by omega, Nat.add_sub_cancel]

/-- a whole number as a double is that number -/
theorem ofNat_spec (n : Nat) (h0 : 0 < n) (h1 : n < 2 ^ 53) : Kg05.negative (Kg05.ofNat n) = false ∧ Kg05.scale (Kg05.mag (Kg05.ofNat n)) = n * Kg05.ONE := by
  have hn : n ≠ 0 := by omega
  have hl := (log2_lt (k := 53) hn).mpr h1
  have e1 : n * Kg05.ONE = (n * 2 ^ (52 - Nat.log2 n)) * 2 ^ (Nat.log2 n + 1022) := by
    unfold Kg05.ONE
    rw [Nat.mul_assoc, ← Nat.pow_add, show 52 - Nat.log2 n + (Nat.log2 n + 1022) = 1074 by omega]
  have hk : Nat.log2 (n * 2 ^ (52 - Nat.log2 n)) = 52 := by rw [log2_mul_pow _ _ hn]; omega
  have hk0 : n * 2 ^ (52 - Nat.log2 n) ≠ 0 := Nat.mul_ne_zero hn (Nat.pos_iff_ne_zero.mp (two_pos _))
  have k0 := (le_log2 (k := 52) hk0).mp (by omega)
  have k1 := (log2_lt (k := 53) hk0).mp (by omega)
  have e2 : Kg05.ofNat n = (Nat.log2 n + 1022) * 2 ^ 52 + n * 2 ^ (52 - Nat.log2 n) := by
    unfold Kg05.ofNat
    rw [e1, near_exact _ _ k0 k1]
    apply Nat.min_eq_right
    unfold Kg05.INFINITY
    omega
  have lt : Kg05.ofNat n < 2 ^ 63 := near_lt _ _
  have m : Kg05.mag (Kg05.ofNat n) = Kg05.ofNat n := Nat.mod_eq_of_lt lt
  refine ⟨decide_eq_false (by unfold Kg05.SIGN; omega), ?_⟩
  rw [m, e2, scale_of _ _ k0 k1, e1]

theorem quotient_count (x n : Nat) (h0 : 0 < n) (h1 : n < 2 ^ 53) : Kg05.quotient x (Kg05.ofNat n) = Kg05.signed (Kg05.negative x) (Kg05.near (Kg05.scale (Kg05.mag x)) n) := by
  obtain ⟨a, b⟩ := ofNat_spec n h0 h1
  unfold Kg05.quotient
  rw [a, b, near_mul _ _ Kg05.ONE (two_pos 1074)]
  cases Kg05.negative x <;> rfl

end My
end
section
namespace My
open PySem PyProof.Rows

theorem and_pow (n k : Nat) : n &&& 2 ^ k = (n / 2 ^ k % 2) * 2 ^ k := by
  apply Nat.eq_of_testBit_eq
  intro i
  rw [Nat.testBit_and, Nat.testBit_two_pow, Nat.testBit_mul_two_pow, show n / 2 ^ k % 2 = n / 2 ^ k % 2 ^ 1 from rfl, Nat.testBit_mod_two_pow, Nat.testBit_div_two_pow]
  by_cases h : k = i
  · subst h; simp
  · by_cases h2 : k ≤ i
    · have : ¬ i - k < 1 := by omega
      simp [h, this]
    · simp [h, h2]
theorem and_pow63 (n : Nat) : n &&& 9223372036854775808 = (n / 9223372036854775808 % 2) * 9223372036854775808 := and_pow n 63
theorem neg_iff (x : Nat) : Kg05.negative x = true ↔ 9223372036854775808 ≤ x := by unfold Kg05.negative Kg05.SIGN; rw [decide_eq_true_eq]
theorem top_bit {x : Nat} (h : x < 18446744073709551616) : x / 9223372036854775808 % 2 = if Kg05.negative x = true then 1 else 0 := by
  by_cases n : Kg05.negative x = true
  · rw [if_pos n]; rw [neg_iff] at n; omega
  · rw [if_neg n]; rw [neg_iff] at n; omega
theorem and_mask63 (n : Nat) : n &&& 9223372036854775807 = n % 9223372036854775808 := Nat.and_two_pow_sub_one_eq_mod n 63
theorem and_mask52 (n : Nat) : n &&& 4503599627370495 = n % 4503599627370496 := Nat.and_two_pow_sub_one_eq_mod n 52

theorem xor_nat (m : Nat) : ∀ n : Nat, (m ^^^ n) + (m &&& n) = m ||| n := by
  induction m using Nat.strongRecOn with
  | ind m ih =>
    intro n
    by_cases h0 : m = 0
    · subst h0; simp
    · have ih' := ih (m / 2) (by omega) (n / 2)
      rw [← Nat.or_div_two, ← Nat.and_div_two, ← Nat.xor_div_two] at ih'
      have o1 := @Nat.or_mod_two_eq_one m n
      have a1 := @Nat.and_mod_two_eq_one m n
      have x1 := @Nat.xor_mod_two_eq_one m n
      omega
theorem bitOr_pp {x y : Int} (hx : 0 ≤ x) (hy : 0 ≤ y) : Builtin.bitOr x y = ((x.toNat ||| y.toNat : Nat) : Int) := by
  have := nat_or_add_and x.toNat y.toNat
  rw [bitOr_and, bitAnd_pp hx hy]
  omega
theorem bitXor_pp {x y : Int} (hx : 0 ≤ x) (hy : 0 ≤ y) : Builtin.bitXor x y = ((x.toNat ^^^ y.toNat : Nat) : Int) := by
  have := xor_nat x.toNat y.toNat
  unfold Builtin.bitXor
  rw [bitOr_pp hx hy, bitAnd_pp hx hy]
  omega

theorem b_mask {x : Int} (h : 0 ≤ x) : Builtin.bitAnd x 9223372036854775807 = ((Kg05.mag x.toNat : Nat) : Int) := by
  rw [bitAnd_pp h (by decide)]
  exact congrArg Int.ofNat (and_mask63 _)
theorem b_frac {x : Int} (h : 0 ≤ x) : Builtin.bitAnd x 4503599627370495 = ((x.toNat % 2 ^ 52 : Nat) : Int) := by
  rw [bitAnd_pp h (by decide)]
  exact congrArg Int.ofNat (and_mask52 _)
theorem b_sign {x : Int} (h : 0 ≤ x) (h1 : x < 18446744073709551616) : Builtin.bitAnd x 9223372036854775808 = if Kg05.negative x.toNat = true then 9223372036854775808 else 0 := by
  rw [bitAnd_pp h (by decide)]
  have e : x.toNat &&& (9223372036854775808 : Int).toNat = _ := and_pow63 _
  rw [e, top_bit (by omega)]
  cases Kg05.negative x.toNat <;> rfl
theorem b_or {m : Int} (h0 : 0 ≤ m) (h1 : m < 9223372036854775808) : Builtin.bitOr 9223372036854775808 m = 9223372036854775808 + m := by
  rw [bitOr_and, bitAnd_comm, b_sign h0 (by omega)]
  rw [if_neg]
  · omega
  · rw [neg_iff]; omega
theorem b_or0 {m : Int} : Builtin.bitOr 0 m = m := by
  rw [bitOr_and, bitAnd_comm, bitAnd_zero]; omega
theorem b_orS (c : Prop) [Decidable c] {m : Nat} (h1 : m < 2 ^ 63) : Builtin.bitOr (if c then 9223372036854775808 else 0) (m : Int) = ((Kg05.signed (decide c) m : Nat) : Int) := by
  by_cases h : c
  · rw [if_pos h, b_or (by omega) (by omega), decide_eq_true h]; unfold Kg05.signed Kg05.SIGN; rw [if_pos rfl]; omega
  · rw [if_neg h, b_or0, decide_eq_false h]; rfl
theorem b_xorS {x : Int} (h0 : 0 ≤ x) (h1 : x < 18446744073709551616) : Builtin.bitXor x 9223372036854775808 = ((Kg05.opposite x.toNat : Nat) : Int) := by
  unfold Builtin.bitXor
  rw [bitOr_and, b_sign h0 h1]
  unfold Kg05.opposite Kg05.signed Kg05.mag Kg05.SIGN
  by_cases h : Kg05.negative x.toNat = true
  · rw [if_pos h, h]; rw [neg_iff] at h; rw [if_neg (by decide)]; omega
  · rw [if_neg h]; rw [Bool.not_eq_true] at h; rw [h, if_pos (by decide)]
    have : ¬ 9223372036854775808 ≤ x.toNat := fun e => by rw [(neg_iff _).mpr e] at h; cases h
    omega
theorem b_andS {x y : Int} (hx : 0 ≤ x) (h1 : x < 18446744073709551616) (hy : 0 ≤ y) (h2 : y < 18446744073709551616) : Builtin.bitAnd (Builtin.bitAnd x y) 9223372036854775808 = ((Kg05.signed (Kg05.negative x.toNat && Kg05.negative y.toNat) 0 : Nat) : Int) := by
  rw [bitAnd_pp hx hy, bitAnd_pp (by omega) (by decide)]
  have e : ((x.toNat &&& y.toNat : Nat) : Int).toNat &&& (9223372036854775808 : Int).toNat = (x.toNat &&& 9223372036854775808) &&& (y.toNat &&& 9223372036854775808) := by
    show (x.toNat &&& y.toNat) &&& 9223372036854775808 = _
    have s : (9223372036854775808 : Nat) = 9223372036854775808 &&& 9223372036854775808 := by decide
    conv => lhs; rw [s]
    rw [Nat.and_assoc, Nat.and_assoc, ← Nat.and_assoc y.toNat, Nat.and_comm (y.toNat &&& _), Nat.and_comm y.toNat]
  rw [e, and_pow63, and_pow63]
  rw [top_bit (by omega), top_bit (by omega)]
  cases Kg05.negative x.toNat <;> cases Kg05.negative y.toNat <;> decide
theorem b_xorAndS {x y : Int} (hx : 0 ≤ x) (h1 : x < 18446744073709551616) (hy : 0 ≤ y) (h2 : y < 18446744073709551616) : Builtin.bitAnd (Builtin.bitXor x y) 9223372036854775808 = if (Kg05.negative x.toNat != Kg05.negative y.toNat) = true then 9223372036854775808 else 0 := by
  rw [bitXor_pp hx hy, bitAnd_pp (by omega) (by decide)]
  have e : ((x.toNat ^^^ y.toNat : Nat) : Int).toNat &&& (9223372036854775808 : Int).toNat = (x.toNat &&& 9223372036854775808) ^^^ (y.toNat &&& 9223372036854775808) := by
    show (x.toNat ^^^ y.toNat) &&& 9223372036854775808 = _
    exact Nat.and_xor_distrib_right
  rw [e, and_pow63, and_pow63]
  rw [top_bit (by omega), top_bit (by omega)]
  cases Kg05.negative x.toNat <;> cases Kg05.negative y.toNat <;> decide
end My
end
section
namespace My

theorem scale_step (m : Nat) : Kg05.scale m < Kg05.scale (m + 1) := by
  unfold Kg05.scale
  by_cases h : (m + 1) / 2 ^ 52 = m / 2 ^ 52
  · rw [h]
    have hm : (m + 1) % 2 ^ 52 = m % 2 ^ 52 + 1 := by omega
    rw [hm]
    by_cases z : m / 2 ^ 52 = 0
    · rw [if_pos z, if_pos z]; omega
    · rw [if_neg z, if_neg z]
      exact Nat.mul_lt_mul_of_pos_right (by omega) (two_pos _)
  · have hm : m % 2 ^ 52 = 2 ^ 52 - 1 := by omega
    have hs : (m + 1) / 2 ^ 52 = m / 2 ^ 52 + 1 := by omega
    have hr : (m + 1) % 2 ^ 52 = 0 := by omega
    rw [hs, hr, if_neg (show ¬ m / 2 ^ 52 + 1 = 0 by omega)]
    by_cases z : m / 2 ^ 52 = 0
    · rw [if_pos z, z]; omega
    · rw [if_neg z, hm]
      obtain ⟨e, he⟩ : ∃ e, m / 2 ^ 52 = e + 1 := ⟨m / 2 ^ 52 - 1, by omega⟩
      rw [he, Nat.add_sub_cancel, Nat.add_sub_cancel, Nat.pow_succ 2 e, Nat.mul_comm (2 ^ e) 2, ← Nat.mul_assoc]
      exact Nat.mul_lt_mul_of_pos_right (by omega) (two_pos _)
theorem scale_lt {a : Nat} : ∀ {b : Nat}, a < b → Kg05.scale a < Kg05.scale b
  | b + 1, h => by
    rcases Nat.lt_or_eq_of_le (Nat.lt_succ_iff.mp h) with h' | h'
    · exact Nat.lt_trans (scale_lt h') (scale_step b)
    · subst h'; exact scale_step _
theorem scale_lt_iff {a b : Nat} : Kg05.scale a < Kg05.scale b ↔ a < b := by
  refine ⟨fun h => ?_, scale_lt⟩
  apply Nat.lt_of_not_le
  intro h'
  rcases Nat.lt_or_eq_of_le h' with h2 | h2
  · have := scale_lt h2; omega
  · subst h2; omega
theorem scale_le_iff {a b : Nat} : Kg05.scale a ≤ Kg05.scale b ↔ a ≤ b := by
  have := @scale_lt_iff b a; omega
theorem scale_zero : Kg05.scale 0 = 0 := rfl
theorem scale_inj {a b : Nat} : Kg05.scale a = Kg05.scale b ↔ a = b := by
  have := @scale_lt_iff b a; have := @scale_lt_iff a b; omega

theorem largest : Kg05.scale 6408622269748215808 = Kg05.LARGEST := by
  have h := scale_of 1422 (2 ^ 52) (by decide) (by decide)
  have e : 1422 * 2 ^ 52 + 2 ^ 52 = 6408622269748215808 := by decide
  rw [e] at h
  rw [h]
  unfold Kg05.LARGEST Kg05.ONE
  rw [← Nat.pow_add, ← Nat.pow_add]
theorem takes_eq (s : Kg05.Abs) (x : Nat) : Kg05.takes s x = decide (Kg05.mag x ≤ 6408622269748215808 ∧ s.n < 4294967295) := by
  unfold Kg05.takes Kg05.isNan Kg05.finite
  rw [← largest]
  have h : decide (Kg05.scale (Kg05.mag x) ≤ Kg05.scale 6408622269748215808) = decide (Kg05.mag x ≤ 6408622269748215808) := decide_eq_decide.mpr scale_le_iff
  rw [h]
  unfold Kg05.INFINITY Kg05.READINGS
  by_cases h1 : Kg05.mag x ≤ 6408622269748215808
  · have a : ¬ 0x7FF0000000000000 < Kg05.mag x := by omega
    have b : Kg05.mag x < 0x7FF0000000000000 := by omega
    simp [a, b, h1]
  · simp [h1]

/-- order of doubles by their bits -/
def key (x : Nat) : Int := if Kg05.negative x = true then -(Kg05.mag x : Int) else (Kg05.mag x : Int)
theorem val_lt_iff (x y : Nat) : Kg05.val x < Kg05.val y ↔ key x < key y := by
  unfold Kg05.val key
  have a := @scale_lt_iff (Kg05.mag x) (Kg05.mag y)
  have b := @scale_lt_iff (Kg05.mag y) (Kg05.mag x)
  have c := @scale_lt_iff 0 (Kg05.mag x)
  have d := @scale_lt_iff 0 (Kg05.mag y)
  rw [scale_zero] at c d
  cases Kg05.negative x <;> cases Kg05.negative y <;> simp <;> omega
theorem val_eq_iff (x y : Nat) : Kg05.val x = Kg05.val y ↔ key x = key y := by
  have a := val_lt_iff x y
  have b := val_lt_iff y x
  omega

/-- the whole part of a root -/
theorem root_unique {n a b : Nat} (a0 : a * a ≤ n) (a1 : n < (a + 1) * (a + 1)) (b0 : b * b ≤ n) (b1 : n < (b + 1) * (b + 1)) : a = b := by
  have h1 : a < b + 1 := Nat.lt_of_not_le fun h => by
    have := Nat.mul_self_le_mul_self h; omega
  have h2 : b < a + 1 := Nat.lt_of_not_le fun h => by
    have := Nat.mul_self_le_mul_self h; omega
  omega
def turn (n : Nat) (q i : Nat) : Nat := if (q + 2 ^ i) * (q + 2 ^ i) ≤ n then q + 2 ^ i else q
theorem root_fold (n : Nat) : ∀ (k q : Nat), q * q ≤ n → n < (q + 2 ^ k) * (q + 2 ^ k) →
    let r := (List.range k).reverse.foldl (turn n) q
    r * r ≤ n ∧ n < (r + 1) * (r + 1)
  | 0, q, h0, h1 => by exact ⟨h0, h1⟩
  | k + 1, q, h0, h1 => by
    rw [List.range_succ, List.reverse_append, List.reverse_singleton, List.singleton_append, List.foldl_cons]
    apply root_fold n k
    · unfold turn; split
      · assumption
      · exact h0
    · unfold turn; split
      · rw [Nat.add_assoc, ← Nat.two_mul, Nat.mul_comm 2, ← Nat.pow_succ]; exact h1
      · omega
theorem rootBelow_spec (n : Nat) : Kg05.rootBelow n * Kg05.rootBelow n ≤ n ∧ n < (Kg05.rootBelow n + 1) * (Kg05.rootBelow n + 1) := by
  refine root_fold n (Nat.log2 n / 2 + 1) 0 (by omega) ?_
  rw [Nat.zero_add, ← Nat.pow_add]
  by_cases h : n = 0
  · subst h; exact two_pos _
  · have := (log2_lt (k := Nat.log2 n + 1) h).mp (Nat.lt_succ_self _)
    exact Nat.lt_of_lt_of_le this (Nat.pow_le_pow_right (by decide) (by omega))
theorem rootBelow_of {n a : Nat} (a0 : a * a ≤ n) (a1 : n < (a + 1) * (a + 1)) : Kg05.rootBelow n = a :=
  root_unique (rootBelow_spec n).1 (rootBelow_spec n).2 a0 a1
end My
end
section
namespace My

def wide (k : Int) : Bool := decide (k = 1 ∨ k = 8 ∨ k = 9)
/-- One call of the list: the object then, what is answered. -/
def stp (s : Kg05.Abs) (k x : Int) : Kg05.Abs × List Int := Kg05Neutral.step s (if wide k = true then [[k, x]] else [[k]])
/-- All that is answered, from a state on. -/
def run : Kg05.Abs → List Int → List Int
  | _, [] => []
  | s, [k] => ((stp s k 0).2.length : Int) :: (stp s k 0).2
  | s, k :: x :: r => if wide k = true then ((stp s k x).2.length : Int) :: (stp s k x).2 ++ run (stp s k x).1 r
    else ((stp s k 0).2.length : Int) :: (stp s k 0).2 ++ run (stp s k 0).1 (x :: r)
inductive WF : Nat → List Int → Prop
  | nil : WF 0 []
  | one {n : Nat} {k : Int} {r : List Int} : 0 ≤ k → k ≤ 9 → wide k = false → WF n r → WF (n + 1) (k :: r)
  | two {n : Nat} {k x : Int} {r : List Int} : 0 ≤ k → k ≤ 9 → wide k = true → 0 ≤ x → x < 18446744073709551616 → WF n r → WF (n + 1) (k :: x :: r)

theorem run_one {s : Kg05.Abs} {k : Int} {r : List Int} (h : wide k = false) : run s (k :: r) = ((stp s k 0).2.length : Int) :: (stp s k 0).2 ++ run (stp s k 0).1 r := by
  cases r with
  | nil => simp [run]
  | cons x r => rw [run, if_neg (by rw [h]; decide)]
theorem run_two {s : Kg05.Abs} {k x : Int} {r : List Int} (h : wide k = true) : run s (k :: x :: r) = ((stp s k x).2.length : Int) :: (stp s k x).2 ++ run (stp s k x).1 r := by
  rw [run, if_pos h]

theorem shape_eq (k : Int) : PyKg05.shape k = if 0 ≤ k ∧ k ≤ 9 then some (if wide k = true then 1 else 0, 0) else none := by
  by_cases h : 0 ≤ k ∧ k ≤ 9
  · rw [if_pos h]
    have : k = 0 ∨ k = 1 ∨ k = 2 ∨ k = 3 ∨ k = 4 ∨ k = 5 ∨ k = 6 ∨ k = 7 ∨ k = 8 ∨ k = 9 := by omega
    rcases this with h | h | h | h | h | h | h | h | h | h <;> subst h <;> decide
  · rw [if_neg h]
    unfold PyKg05.shape
    repeat rw [if_neg (by omega)]
theorem call_eq (k : Int) (r : List Int) : PyFlat.call PyKg05.shape (k :: r) =
    if 0 ≤ k ∧ k ≤ 9 then (if wide k = true then (match r with | [] => none | x :: t => some ([[k, x]], t)) else some ([[k]], r)) else none := by
  unfold PyFlat.call
  dsimp only
  rw [shape_eq]
  by_cases h : 0 ≤ k ∧ k ≤ 9
  · rw [if_pos h, if_pos h]
    by_cases hw : wide k = true
    · rw [if_pos hw, if_pos hw]
      cases r with
      | nil => rfl
      | cons x t => simp [PyFlat.rows]
    · rw [if_neg hw, if_neg hw]
      simp [PyFlat.rows]
  · rw [if_neg h, if_neg h]
theorem whole_one {k : Int} (h0 : 0 ≤ k) (h9 : k ≤ 9) (hw : wide k = false) : PyKg05.whole [[k]] = [[k]] := by
  have : k = 0 ∨ k = 1 ∨ k = 2 ∨ k = 3 ∨ k = 4 ∨ k = 5 ∨ k = 6 ∨ k = 7 ∨ k = 8 ∨ k = 9 := by omega
  rcases this with h | h | h | h | h | h | h | h | h | h <;> subst h <;> first | rfl | cases hw
theorem whole_two {k x : Int} (h0 : 0 ≤ k) (h9 : k ≤ 9) (hw : wide k = true) : PyKg05.whole [[k, x]] = [[k, x]] := by
  have : k = 0 ∨ k = 1 ∨ k = 2 ∨ k = 3 ∨ k = 4 ∨ k = 5 ∨ k = 6 ∨ k = 7 ∨ k = 8 ∨ k = 9 := by omega
  rcases this with h | h | h | h | h | h | h | h | h | h <;> subst h <;> first | rfl | cases hw
theorem asked_two {k x : Int} (h0 : 0 ≤ k) (h9 : k ≤ 9) (hw : wide k = true) (h : Kg05Neutral.asked1 [[k, x]] = true) : 0 ≤ x ∧ x < 18446744073709551616 := by
  have n : Kg05Neutral.natural x 64 = true := by
    have : k = 0 ∨ k = 1 ∨ k = 2 ∨ k = 3 ∨ k = 4 ∨ k = 5 ∨ k = 6 ∨ k = 7 ∨ k = 8 ∨ k = 9 := by omega
    rcases this with e | e | e | e | e | e | e | e | e | e <;> subst e <;> first | exact h | cases hw
  unfold Kg05Neutral.natural at n
  rw [Bool.and_eq_true, decide_eq_true_eq, decide_eq_true_eq] at n
  exact n
theorem parsed : ∀ (f : Nat) (l : List Int) (cs : List (List (List Int))) (s : Kg05.Abs), PyFlat.calls PyKg05.shape f l = some cs → (cs.map PyKg05.whole).all Kg05Neutral.asked1 = true →
    WF cs.length l ∧ PyFlat.told (PyFlat.played Kg05Neutral.step s (cs.map PyKg05.whole)) = run s l
  | f, [], cs, s, h, _ => by
    have e : cs = [] := by cases f <;> (simp [PyFlat.calls] at h; exact h)
    subst e
    exact ⟨.nil, rfl⟩
  | 0, k :: r, cs, s, h, _ => by simp [PyFlat.calls] at h
  | f + 1, k :: r, cs, s, h, ha => by
    rw [PyFlat.calls, call_eq] at h
    by_cases hk : 0 ≤ k ∧ k ≤ 9
    · rw [if_pos hk] at h
      cases hw : wide k with
      | true =>
        rw [if_pos hw] at h
        cases r with
        | nil => simp at h
        | cons x t =>
          simp only at h
          cases hc : PyFlat.calls PyKg05.shape f t with
          | none => rw [hc] at h; simp at h
          | some cs' =>
            rw [hc] at h
            simp only [Option.some.injEq] at h
            subst h
            rw [List.map_cons, List.all_cons, Bool.and_eq_true, whole_two hk.1 hk.2 hw] at ha
            obtain ⟨hx0, hx1⟩ := asked_two hk.1 hk.2 hw ha.1
            obtain ⟨w, e⟩ := parsed f t cs' (stp s k x).1 hc ha.2
            refine ⟨.two hk.1 hk.2 hw hx0 hx1 w, ?_⟩
            rw [run_two hw, ← e, List.map_cons, whole_two hk.1 hk.2 hw]
            have se : stp s k x = Kg05Neutral.step s [[k, x]] := by unfold stp; rw [if_pos hw]
            rw [se]
            simp [PyFlat.played, PyFlat.told]
      | false =>
        rw [if_neg (by rw [hw]; decide)] at h
        simp only at h
        cases hc : PyFlat.calls PyKg05.shape f r with
        | none => rw [hc] at h; simp at h
        | some cs' =>
          rw [hc] at h
          simp only [Option.some.injEq] at h
          subst h
          rw [List.map_cons, List.all_cons, Bool.and_eq_true, whole_one hk.1 hk.2 hw] at ha
          obtain ⟨w, e⟩ := parsed f r cs' (stp s k 0).1 hc ha.2
          refine ⟨.one hk.1 hk.2 hw w, ?_⟩
          rw [run_one hw, ← e, List.map_cons, whole_one hk.1 hk.2 hw]
          have se : stp s k 0 = Kg05Neutral.step s [[k]] := by unfold stp; rw [if_neg (by rw [hw]; decide)]
          rw [se]
          simp [PyFlat.played, PyFlat.told]
    · rw [if_neg hk] at h; simp at h

theorem asked_run {l : List Int} (h : PyKg05.answers_asked l = true) : (∃ n, n ≤ 100 ∧ WF n l) ∧ PyKg05.answers l = run Kg05.init l ∧ l ≠ [] := by
  unfold PyKg05.answers_asked at h
  unfold PyKg05.answers
  unfold PyKg05.calls at h ⊢
  cases hc : PyFlat.calls PyKg05.shape l.length l with
  | none => rw [hc] at h; simp at h
  | some cs =>
    rw [hc] at h
    simp only [Bool.and_eq_true] at h
    have ha := h.2
    unfold Kg05Neutral.asked at ha
    rw [Bool.and_eq_true, Bool.and_eq_true] at ha
    obtain ⟨w, e⟩ := parsed _ _ _ Kg05.init hc ha.2.2
    have hn := h.1
    unfold PyFlat.atMost at hn
    rw [decide_eq_true_eq, List.length_map] at hn
    refine ⟨⟨_, hn, w⟩, e, ?_⟩
    intro hl
    subst hl
    have : cs = [] := by simp [PyFlat.calls] at hc; exact hc
    subst this
    simp at ha
end My
end
section
namespace My
open PySem PyProof.Rows
open PySem.Builtin.Int (intBits)

/-- A whole number of so many bits. -/
structure Fits (x : Int) (k : Nat) : Prop where
  lt : x.natAbs < 2 ^ k
theorem Fits.mono {x : Int} {a b : Nat} (h : Fits x a) (hab : a ≤ b) : Fits x b := ⟨Nat.lt_of_lt_of_le h.lt (Nat.pow_le_pow_right (by decide) hab)⟩
theorem Fits.bits {x : Int} {k : Nat} (h : Fits x k) : intBits x ≤ k := by
  unfold Builtin.Int.intBits
  split
  · omega
  · rename_i hx
    have h0 : x.natAbs ≠ 0 := by
      intro e; apply hx; rw [Int.natAbs_eq_zero] at e; subst e; rfl
    have := (log2_lt h0).mpr h.lt
    omega
theorem bits_cast (q : Nat) : intBits (q : Int) = bits q := by
  unfold Builtin.Int.intBits bits
  by_cases h : q = 0
  · subst h; rfl
  · rw [if_neg (by simpa using h), if_neg h]; rfl
theorem Fits.of_lt {x : Int} {k : Nat} (h0 : 0 ≤ x) (h : x < ((2 ^ k : Nat) : Int)) : Fits x k := ⟨by omega⟩

def cMag (x : Int) : Int := ((Kg05.mag x.toNat : Nat) : Int)
def cSize (x : Int) : Int := ((Kg05.scale (Kg05.mag x.toNat) : Nat) : Int)
def cUnits (x : Int) : Int := Kg05.val x.toNat
def cNear (n d : Int) : Int := ((Kg05.near n.toNat d.toNat : Nat) : Int)
def cPlus (x y : Int) : Int := ((Kg05.sum x.toNat y.toNat : Nat) : Int)
def cMinus (x y : Int) : Int := ((Kg05.minus x.toNat y.toNat : Nat) : Int)
def cTimes (x y : Int) : Int := ((Kg05.product x.toNat y.toNat : Nat) : Int)
def cCount (x n : Int) : Int := ((Kg05.quotient x.toNat (Kg05.ofNat n.toNat) : Nat) : Int)
def cOver (x y : Int) : Int := ((Kg05.quotient x.toNat y.toNat : Nat) : Int)

theorem cMag_in (x : Int) : 0 ≤ cMag x ∧ cMag x < 9223372036854775808 := by
  have : Kg05.mag x.toNat < 2 ^ 63 := Nat.mod_lt _ (by decide)
  unfold cMag; omega
theorem signed_lt (b : Bool) {m : Nat} (h : m < 2 ^ 63) : Kg05.signed b m < 2 ^ 64 := by
  unfold Kg05.signed Kg05.SIGN
  cases b <;> simp <;> omega
theorem sum_lt (x y : Nat) : Kg05.sum x y < 2 ^ 64 := by
  unfold Kg05.sum
  split
  · exact signed_lt _ (by decide)
  · exact signed_lt _ (near_lt _ _)
theorem cPlus_in (x y : Int) : 0 ≤ cPlus x y ∧ cPlus x y < 18446744073709551616 := by
  have := sum_lt x.toNat y.toNat; unfold cPlus; omega
theorem cMinus_in (x y : Int) : 0 ≤ cMinus x y ∧ cMinus x y < 18446744073709551616 := by
  have := sum_lt x.toNat (Kg05.opposite y.toNat); unfold cMinus Kg05.minus; omega
theorem cTimes_in (x y : Int) : 0 ≤ cTimes x y ∧ cTimes x y < 18446744073709551616 := by
  have := signed_lt (Kg05.negative x.toNat != Kg05.negative y.toNat) (near_lt (Kg05.scale (Kg05.mag x.toNat) * Kg05.scale (Kg05.mag y.toNat)) Kg05.ONE)
  unfold cTimes Kg05.product; omega
theorem cCount_in (x y : Int) : 0 ≤ cCount x y ∧ cCount x y < 18446744073709551616 := by
  have := signed_lt (Kg05.negative x.toNat != Kg05.negative (Kg05.ofNat y.toNat)) (near_lt (Kg05.scale (Kg05.mag x.toNat) * Kg05.ONE) (Kg05.scale (Kg05.mag (Kg05.ofNat y.toNat))))
  unfold cCount Kg05.quotient; omega
theorem cOver_in (x y : Int) : 0 ≤ cOver x y ∧ cOver x y < 18446744073709551616 := by
  have := signed_lt (Kg05.negative x.toNat != Kg05.negative y.toNat) (near_lt (Kg05.scale (Kg05.mag x.toNat) * Kg05.ONE) (Kg05.scale (Kg05.mag y.toNat)))
  unfold cOver Kg05.quotient; omega
theorem cNear_in (n d : Int) : 0 ≤ cNear n d ∧ cNear n d ≤ 9218868437227405312 := by
  have := near_le n.toNat d.toNat; unfold cNear; unfold Kg05.INFINITY at this; omega

theorem scale_top (m : Nat) (h : m < 2 ^ 63) : Kg05.scale m < 2 ^ 2099 := by
  unfold Kg05.scale
  split
  · exact Nat.lt_of_lt_of_le h (Nat.pow_le_pow_right (by decide) (by decide))
  · have a : 2 ^ 52 + m % 2 ^ 52 < 2 ^ 53 := by omega
    have b : 2 ^ (m / 2 ^ 52 - 1) ≤ 2 ^ 2046 := Nat.pow_le_pow_right (by decide) (by omega)
    calc _ < 2 ^ 53 * 2 ^ (m / 2 ^ 52 - 1) := Nat.mul_lt_mul_of_pos_right a (two_pos _)
      _ ≤ 2 ^ 53 * 2 ^ 2046 := Nat.mul_le_mul_left _ b
      _ = 2 ^ 2099 := by rw [← Nat.pow_add]
theorem cSize_in (x : Int) : 0 ≤ cSize x ∧ Fits (cSize x) 2099 := by
  have := scale_top (Kg05.mag x.toNat) (Nat.mod_lt _ (by decide))
  unfold cSize
  exact ⟨by omega, ⟨by simpa using this⟩⟩
theorem cUnits_in (x : Int) : Fits (cUnits x) 2099 := by
  have := scale_top (Kg05.mag x.toNat) (Nat.mod_lt _ (by decide))
  unfold cUnits Kg05.val
  split <;> exact ⟨by simpa using this⟩
theorem Fits.add {x y : Int} {k : Nat} (hx : Fits x k) (hy : Fits y k) : Fits (x + y) (k + 1) := by
  have a := hx.lt
  have b := hy.lt
  refine ⟨?_⟩
  rw [Nat.pow_succ]
  omega
theorem Fits.mul {x y : Int} {j k : Nat} (hx : Fits x j) (hy : Fits y k) : Fits (x * y) (j + k) := by
  refine ⟨?_⟩
  rw [Int.natAbs_mul, Nat.pow_add]
  exact Nat.mul_lt_mul'' hx.lt hy.lt

/-! The defs' ways. -/
theorem mag_out {x : Int} (h : 0 ≤ x) : Builtin.bitAnd x 9223372036854775807 = cMag x := b_mask h
theorem exp_eq (x : Int) : (cMag x).fdiv 4503599627370496 = ((Kg05.mag x.toNat / 2 ^ 52 : Nat) : Int) := by
  unfold cMag
  rw [Int.fdiv_eq_ediv_of_nonneg _ (by decide)]
  rfl
theorem frac_eq (x : Int) (h : 0 ≤ x) : Builtin.bitAnd x 4503599627370495 = ((Kg05.mag x.toNat % 2 ^ 52 : Nat) : Int) := by
  rw [b_frac h]
  unfold Kg05.mag Kg05.SIGN
  omega
theorem size_small {x : Int} (h : 0 ≤ x) (e : (cMag x).fdiv 4503599627370496 = 0) : Builtin.bitAnd x 4503599627370495 = cSize x := by
  rw [exp_eq] at e
  rw [frac_eq x h]
  unfold cSize Kg05.scale
  rw [if_pos (by omega)]
  omega
theorem size_big {x : Int} (h : 0 ≤ x) (e : ¬ (cMag x).fdiv 4503599627370496 = 0) :
    (Builtin.bitAnd x 4503599627370495 + 4503599627370496) * 2 ^ ((cMag x).fdiv 4503599627370496 - 1).toNat = cSize x := by
  rw [exp_eq] at e ⊢
  rw [frac_eq x h]
  unfold cSize Kg05.scale
  rw [if_neg (by omega)]
  have t : (((Kg05.mag x.toNat / 2 ^ 52 : Nat) : Int) - 1).toNat = Kg05.mag x.toNat / 2 ^ 52 - 1 := by omega
  rw [t, Int.natCast_mul, Int.natCast_pow, Int.natCast_add, Int.add_comm]
  rfl
theorem units_neg {x : Int} (h : Kg05.negative x.toNat = true) : -cSize x = cUnits x := by
  unfold cSize cUnits Kg05.val; rw [if_pos h]
theorem units_pos {x : Int} (h : ¬ Kg05.negative x.toNat = true) : cSize x = cUnits x := by
  unfold cSize cUnits Kg05.val; rw [if_neg h]
end My
end
section
namespace My
open PySem PyProof.Rows
open PySem.Builtin.Int (intBits)

/-- how far the quotient is cut -/
def cDrop (n d : Int) : Int := ((bits (n.toNat / d.toNat) - 53 : Nat) : Int)
theorem fdiv_nat {n d : Int} (hn : 0 ≤ n) (hd : 0 ≤ d) : n.fdiv d = ((n.toNat / d.toNat : Nat) : Int) := by
  rw [Int.fdiv_eq_ediv_of_nonneg _ hd]
  have a : n = (n.toNat : Int) := by omega
  have b : d = (d.toNat : Int) := by omega
  conv => lhs; rw [a, b]
  rfl
theorem drop_eq {n d : Int} (hn : 0 ≤ n) (hd : 0 ≤ d) : (if (0 : Int) > (intBits (n.fdiv d) : Int) - 53 then 0 else (intBits (n.fdiv d) : Int) - 53) = cDrop n d := by
  rw [fdiv_nat hn hd, bits_cast]
  unfold cDrop
  split <;> omega
/-- the width of the last place kept -/
def cStep (n d : Int) : Int := d * 2 ^ (cDrop n d).toNat
theorem step_nat {n d : Int} (hd : 0 ≤ d) : cStep n d = ((d.toNat * 2 ^ (bits (n.toNat / d.toNat) - 53) : Nat) : Int) := by
  unfold cStep cDrop
  rw [Int.toNat_natCast, Int.natCast_mul, Int.natCast_pow, Int.toNat_of_nonneg hd]
  rfl
theorem step_pos {n d : Int} (hd : 0 < d) : 0 < cStep n d := by
  rw [step_nat (by omega)]
  have := Nat.mul_pos (show 0 < d.toNat by omega) (two_pos (bits (n.toNat / d.toNat) - 53))
  omega
def cKept (n d : Int) : Int := n.fdiv (cStep n d)
theorem kept_nat {n d : Int} (hn : 0 ≤ n) (hd : 0 ≤ d) : cKept n d = ((n.toNat / (d.toNat * 2 ^ (bits (n.toNat / d.toNat) - 53)) : Nat) : Int) := by
  unfold cKept
  rw [step_nat hd, fdiv_nat hn (by omega), Int.toNat_natCast]
def cTwice (n d : Int) : Int := 2 * (n - cKept n d * cStep n d)
theorem twice_nat {n d : Int} (hn : 0 ≤ n) (hd : 0 ≤ d) : cTwice n d = ((2 * (n.toNat - n.toNat / (d.toNat * 2 ^ (bits (n.toNat / d.toNat) - 53)) * (d.toNat * 2 ^ (bits (n.toNat / d.toNat) - 53))) : Nat) : Int) := by
  unfold cTwice
  rw [kept_nat hn hd, step_nat hd]
  generalize d.toNat * 2 ^ (bits (n.toNat / d.toNat) - 53) = s
  have := Nat.div_mul_le_self n.toNat s
  rw [Int.natCast_mul, Int.natCast_sub this, Int.natCast_mul, Int.toNat_of_nonneg hn]
  rfl
theorem near_up {n d : Int} (hn : 0 ≤ n) (hd : 0 < d) (h : cTwice n d > cStep n d ∨ (cTwice n d = cStep n d ∧ (cKept n d).fmod 2 = 1)) :
    (if 9218868437227405312 < cDrop n d * 4503599627370496 + (cKept n d + 1) then 9218868437227405312 else cDrop n d * 4503599627370496 + (cKept n d + 1)) = cNear n d := by
  rw [twice_nat hn (by omega), kept_nat hn (by omega), step_nat (by omega), Int.fmod_eq_emod_of_nonneg _ (by decide)] at h
  unfold cNear
  rw [← nearP_eq, kept_nat hn (by omega)]
  unfold nearP cDrop
  dsimp only
  generalize d.toNat * 2 ^ (bits (n.toNat / d.toNat) - 53) = s at h ⊢
  generalize 2 * (n.toNat - n.toNat / s * s) = t at h ⊢
  generalize n.toNat / s = q at h ⊢
  generalize bits (n.toNat / d.toNat) - 53 = e
  rw [if_pos (show s < t ∨ (t = s ∧ q % 2 = 1) by omega)]
  unfold Kg05.INFINITY
  split <;> omega
theorem near_stay {n d : Int} (hn : 0 ≤ n) (hd : 0 < d) (h : ¬ (cTwice n d > cStep n d ∨ (cTwice n d = cStep n d ∧ (cKept n d).fmod 2 = 1))) :
    (if 9218868437227405312 < cDrop n d * 4503599627370496 + cKept n d then 9218868437227405312 else cDrop n d * 4503599627370496 + cKept n d) = cNear n d := by
  rw [twice_nat hn (by omega), kept_nat hn (by omega), step_nat (by omega), Int.fmod_eq_emod_of_nonneg _ (by decide)] at h
  unfold cNear
  rw [← nearP_eq, kept_nat hn (by omega)]
  unfold nearP cDrop
  dsimp only
  generalize d.toNat * 2 ^ (bits (n.toNat / d.toNat) - 53) = s at h ⊢
  generalize 2 * (n.toNat - n.toNat / s * s) = t at h ⊢
  generalize n.toNat / s = q at h ⊢
  generalize bits (n.toNat / d.toNat) - 53 = e
  rw [if_neg (show ¬ (s < t ∨ (t = s ∧ q % 2 = 1)) by omega)]
  unfold Kg05.INFINITY
  split <;> omega

/-! plus, minus, times, over a count -/
theorem plus_zero {x y : Int} (hx : 0 ≤ x) (h1 : x < 18446744073709551616) (hy : 0 ≤ y) (h2 : y < 18446744073709551616) (h : cUnits x + cUnits y = 0) :
    Builtin.bitAnd (Builtin.bitAnd x y) 9223372036854775808 = cPlus x y := by
  rw [b_andS hx h1 hy h2]
  unfold cPlus Kg05.sum
  have h' : Kg05.val x.toNat + Kg05.val y.toNat = 0 := h
  rw [if_pos h']
theorem signed_true (m : Nat) : Kg05.signed true m = 9223372036854775808 + m := rfl
theorem signed_false (m : Nat) : Kg05.signed false m = m := rfl
theorem near_abs {z : Int} : cNear (z.natAbs : Int) 1 = ((Kg05.near z.natAbs 1 : Nat) : Int) := rfl
theorem plus_neg {x y : Int} (h : cUnits x + cUnits y < 0) : Builtin.bitOr 9223372036854775808 (cNear (-(cUnits x + cUnits y)) 1) = cPlus x y := by
  have e : cNear (-(cUnits x + cUnits y)) 1 = ((Kg05.near (cUnits x + cUnits y).natAbs 1 : Nat) : Int) := by
    unfold cNear; rw [show (-(cUnits x + cUnits y)).toNat = (cUnits x + cUnits y).natAbs by omega]; rfl
  have i := near_lt (cUnits x + cUnits y).natAbs 1
  rw [e, b_or (by omega) (by omega)]
  unfold cPlus Kg05.sum
  have h' : Kg05.val x.toNat + Kg05.val y.toNat < 0 := h
  rw [if_neg (by omega), decide_eq_true h', signed_true]
  unfold cUnits
  generalize Kg05.near (Kg05.val x.toNat + Kg05.val y.toNat).natAbs 1 = z
  omega
theorem plus_pos {x y : Int} (h : 0 < cUnits x + cUnits y) : Builtin.bitOr 0 (cNear (cUnits x + cUnits y) 1) = cPlus x y := by
  have e : cNear (cUnits x + cUnits y) 1 = ((Kg05.near (cUnits x + cUnits y).natAbs 1 : Nat) : Int) := by
    unfold cNear; rw [show (cUnits x + cUnits y).toNat = (cUnits x + cUnits y).natAbs by omega]; rfl
  rw [e, b_or0]
  unfold cPlus Kg05.sum
  have h' : 0 < Kg05.val x.toNat + Kg05.val y.toNat := h
  rw [if_neg (by omega), decide_eq_false (by omega), signed_false]
  unfold cUnits
  rfl
theorem opp_in {x : Int} (h0 : 0 ≤ x) (h1 : x < 18446744073709551616) : 0 ≤ Builtin.bitXor x 9223372036854775808 ∧ Builtin.bitXor x 9223372036854775808 < 18446744073709551616 := by
  rw [b_xorS h0 h1]
  have := signed_lt (!Kg05.negative x.toNat) (m := Kg05.mag x.toNat) (Nat.mod_lt _ (by decide))
  unfold Kg05.opposite; omega
theorem minus_out {x y : Int} (hy : 0 ≤ y) (h2 : y < 18446744073709551616) : cPlus x (Builtin.bitXor y 9223372036854775808) = cMinus x y := by
  rw [b_xorS hy h2]; rfl
theorem times_out {x y : Int} (hx : 0 ≤ x) (h1 : x < 18446744073709551616) (hy : 0 ≤ y) (h2 : y < 18446744073709551616) {one : Int} (h : one = ((2 ^ 1074 : Nat) : Int)) :
    Builtin.bitOr (Builtin.bitAnd (Builtin.bitXor x y) 9223372036854775808) (cNear (cSize x * cSize y) one) = cTimes x y := by
  subst h
  rw [b_xorAndS hx h1 hy h2]
  have e : cNear (cSize x * cSize y) ((2 ^ 1074 : Nat) : Int) = ((Kg05.near (Kg05.scale (Kg05.mag x.toNat) * Kg05.scale (Kg05.mag y.toNat)) Kg05.ONE : Nat) : Int) := by
    unfold cNear cSize
    rw [← Int.natCast_mul, Int.toNat_natCast, Int.toNat_natCast]; rfl
  rw [e, b_orS _ (near_lt _ _), Bool.decide_eq_true]
  rfl
theorem over_out {x y : Int} (hx : 0 ≤ x) (h1 : x < 18446744073709551616) (hy : 0 ≤ y) (h2 : y < 18446744073709551616) {a : Int} (h : a = cSize x * ((2 ^ 1074 : Nat) : Int)) :
    Builtin.bitOr (Builtin.bitAnd (Builtin.bitXor x y) 9223372036854775808) (cNear a (cSize y)) = cOver x y := by
  subst h
  rw [b_xorAndS hx h1 hy h2]
  have e : cNear (cSize x * ((2 ^ 1074 : Nat) : Int)) (cSize y) = ((Kg05.near (Kg05.scale (Kg05.mag x.toNat) * Kg05.ONE) (Kg05.scale (Kg05.mag y.toNat)) : Nat) : Int) := by
    unfold cNear cSize
    rw [← Int.natCast_mul, Int.toNat_natCast, Int.toNat_natCast]; rfl
  rw [e, b_orS _ (near_lt _ _), Bool.decide_eq_true]
  rfl
theorem count_out {x n : Int} (hx : 0 ≤ x) (h1 : x < 18446744073709551616) (hn : 0 < n) (h2 : n < 9007199254740992) :
    Builtin.bitOr (Builtin.bitAnd x 9223372036854775808) (cNear (cSize x) n) = cCount x n := by
  rw [b_sign hx h1]
  unfold cCount
  rw [quotient_count _ _ (by omega) (by omega)]
  have e : cNear (cSize x) n = ((Kg05.near (Kg05.scale (Kg05.mag x.toNat)) n.toNat : Nat) : Int) := rfl
  rw [e, b_orS _ (near_lt _ _), Bool.decide_eq_true]
end My
end
section
namespace My
open PySem PyProof.Rows

def st (c m q l g : Int) : Kg05.Abs := ⟨c.toNat, m.toNat, q.toNat, l.toNat, g.toNat⟩
/-- What holds between two calls of the list. -/
structure Inv (ns : List Int) (p : Int) (told : List Int) (c m q l g : Int) : Prop where
  wf : ∃ n, WF n (ns.drop p.toNat) ∧ c.toNat + n ≤ 100
  eq : told ++ run (st c m q l g) (ns.drop p.toNat) = run Kg05.init ns

theorem Inv.start {ns : List Int} {n : Nat} (w : WF n ns) (h : n ≤ 100) : Inv ns 0 [] 0 0 0 0 0 := ⟨⟨n, w, by omega⟩, rfl⟩
theorem drop_cons {ns : List Int} {p : Nat} (h : p < ns.length) : ns.drop p = ns.getD p 0 :: ns.drop (p + 1) := by
  rw [List.drop_eq_getElem_cons h, List.getD_eq_getElem?_getD, List.getElem?_eq_getElem h]
  rfl
theorem WF.head {n : Nat} {k : Int} {r : List Int} (w : WF n (k :: r)) : 0 ≤ k ∧ k ≤ 9 := by
  cases w <;> exact ⟨by assumption, by assumption⟩
theorem WF.pos {n : Nat} {k : Int} {r : List Int} (w : WF n (k :: r)) : 0 < n := by
  cases w <;> omega
theorem WF.narrow {n : Nat} {k : Int} {r : List Int} (w : WF n (k :: r)) (h : wide k = false) : ∃ m, n = m + 1 ∧ WF m r := by
  cases w with
  | one _ _ _ w => exact ⟨_, rfl, w⟩
  | two _ _ h' _ _ _ => rw [h] at h'; cases h'
theorem WF.broad {n : Nat} {k : Int} {r : List Int} (w : WF n (k :: r)) (h : wide k = true) : ∃ m x t, n = m + 1 ∧ r = x :: t ∧ 0 ≤ x ∧ x < 18446744073709551616 ∧ WF m t := by
  cases w with
  | one _ _ h' _ => rw [h] at h'; cases h'
  | two _ _ _ a b w => exact ⟨_, _, _, rfl, rfl, a, b, w⟩

section
variable {ns told : List Int} {p c m q l g c' m' q' l' g' : Int}
theorem Inv.kind (I : Inv ns p told c m q l g) (h0 : 0 ≤ p) (h1 : p < (ns.length : Int)) : 0 ≤ ns.getD p.toNat 0 ∧ ns.getD p.toNat 0 ≤ 9 := by
  obtain ⟨n, w, _⟩ := I.wf
  rw [drop_cons (by omega)] at w
  exact w.head
theorem Inv.few (I : Inv ns p told c m q l g) (h0 : 0 ≤ p) (h1 : p < (ns.length : Int)) : c < 100 := by
  obtain ⟨n, w, h⟩ := I.wf
  rw [drop_cons (by omega)] at w
  have := w.pos
  omega
theorem Inv.arg (I : Inv ns p told c m q l g) (h0 : 0 ≤ p) (h1 : p < (ns.length : Int)) (hw : wide (ns.getD p.toNat 0) = true) :
    p + 1 < (ns.length : Int) ∧ 0 ≤ ns.getD (p.toNat + 1) 0 ∧ ns.getD (p.toNat + 1) 0 < 18446744073709551616 := by
  obtain ⟨n, w, _⟩ := I.wf
  rw [drop_cons (by omega)] at w
  obtain ⟨_, x, t, _, e, a, b, _⟩ := w.broad hw
  have hl : p.toNat + 1 < ns.length := by
    apply Nat.lt_of_not_le
    intro h
    rw [List.drop_eq_nil_of_le h] at e
    cases e
  rw [drop_cons hl] at e
  injection e with e1 e2
  rw [e1]
  exact ⟨by omega, a, b⟩
theorem Inv.one (I : Inv ns p told c m q l g) (h0 : 0 ≤ p) (h1 : p < (ns.length : Int)) {k : Int} (hk : ns.getD p.toNat 0 = k) (hw : wide k = false) {a : List Int}
    (hs : stp (st c m q l g) k 0 = (st c' m' q' l' g', a)) (hc : c' ≤ c + 1 ∨ c' ≤ 0) : Inv ns (p + 1) (told ++ ((a.length : Int) :: a)) c' m' q' l' g' := by
  obtain ⟨n, w, hn⟩ := I.wf
  have e := I.eq
  rw [drop_cons (by omega), hk] at w e
  obtain ⟨j, hj, w'⟩ := w.narrow hw
  have t : (p + 1).toNat = p.toNat + 1 := by omega
  refine ⟨⟨j, by rw [t]; exact w', by omega⟩, ?_⟩
  rw [run_one hw, hs] at e
  rw [t, ← e, List.append_assoc]
theorem Inv.two (I : Inv ns p told c m q l g) (h0 : 0 ≤ p) (h1 : p < (ns.length : Int)) {k x : Int} (hk : ns.getD p.toNat 0 = k) (hw : wide k = true) (hx : ns.getD (p.toNat + 1) 0 = x) {a : List Int}
    (hs : stp (st c m q l g) k x = (st c' m' q' l' g', a)) (hc : c' ≤ c + 1 ∨ c' ≤ 0) : Inv ns (p + 2) (told ++ ((a.length : Int) :: a)) c' m' q' l' g' := by
  have hl := (I.arg h0 h1 (by rw [hk]; exact hw)).1
  obtain ⟨n, w, hn⟩ := I.wf
  have e := I.eq
  rw [drop_cons (by omega), hk, drop_cons (by omega), hx] at w e
  have t : (p + 2).toNat = p.toNat + 1 + 1 := by omega
  obtain ⟨j, x', t', hj, e', _, _, w'⟩ := w.broad hw
  refine ⟨⟨j, ?_, by omega⟩, ?_⟩
  · rw [t]
    injection e' with e1 e2
    rw [e2]
    exact w'
  · rw [run_two hw, hs] at e
    rw [t, ← e, List.append_assoc]
theorem Inv.done (I : Inv ns p told c m q l g) (h : (ns.length : Int) ≤ p) : told = run Kg05.init ns := by
  have e := I.eq
  rw [List.drop_eq_nil_of_le (by omega)] at e
  rw [← e]
  simp [run]
end

/-! The calls. -/
section
variable {c m q l g : Int}
theorem s_begin : stp (st c m q l g) 0 0 = (st 0 0 0 0 0, [0]) := rfl
theorem s_count (h : 0 ≤ c) : stp (st c m q l g) 2 0 = (st c m q l g, [c]) := by
  show (st c m q l g, [((c.toNat : Nat) : Int)]) = _
  rw [Int.toNat_of_nonneg h]
theorem s_mean (h : 0 ≤ m) : stp (st c m q l g) 3 0 = (st c m q l g, [m]) := by
  show (st c m q l g, [((m.toNat : Nat) : Int)]) = _
  rw [Int.toNat_of_nonneg h]
theorem s_least (h : 0 ≤ l) : stp (st c m q l g) 6 0 = (st c m q l g, [l]) := by
  show (st c m q l g, [((l.toNat : Nat) : Int)]) = _
  rw [Int.toNat_of_nonneg h]
theorem s_most (h : 0 ≤ g) : stp (st c m q l g) 7 0 = (st c m q l g, [g]) := by
  show (st c m q l g, [((g.toNat : Nat) : Int)]) = _
  rw [Int.toNat_of_nonneg h]
def cVar (c q : Int) : Int := if c < 2 then 0 else cCount q (c - 1)
theorem var_eq (h : 0 ≤ c) : ((Kg05.variance (st c m q l g) : Nat) : Int) = cVar c q := by
  unfold Kg05.variance cVar cCount
  show ((if c.toNat < 2 then 0 else Kg05.quotient q.toNat (Kg05.ofNat (c.toNat - 1)) : Nat) : Int) = _
  by_cases h2 : c < 2
  · rw [if_pos (by omega), if_pos h2]; rfl
  · rw [if_neg (by omega), if_neg h2, show (c - 1).toNat = c.toNat - 1 by omega]
theorem cVar_in (c q : Int) : 0 ≤ cVar c q ∧ cVar c q < 18446744073709551616 := by
  unfold cVar
  split
  · omega
  · exact cCount_in _ _
theorem s_var (h : 0 ≤ c) : stp (st c m q l g) 4 0 = (st c m q l g, [cVar c q]) := by
  show (st c m q l g, [((Kg05.variance (st c m q l g) : Nat) : Int)]) = _
  rw [var_eq h]
def cRoot (x : Int) : Int := ((Kg05.rootOf x.toNat : Nat) : Int)
theorem s_dev (h : 0 ≤ c) : stp (st c m q l g) 5 0 = (st c m q l g, [cRoot (cVar c q)]) := by
  show (st c m q l g, [((Kg05.rootOf (Kg05.variance (st c m q l g)) : Nat) : Int)]) = _
  unfold cRoot
  rw [← var_eq (m := m) (l := l) (g := g) h, Int.toNat_natCast]
theorem s_side {x : Int} : stp (st c m q l g) 8 x = (st c m q l g, [Kg05.side x.toNat m.toNat]) := rfl
theorem s_refuse {x : Int} (h : 6408622269748215808 < cMag x ∨ 4294967295 ≤ c) : stp (st c m q l g) 1 x = (st c m q l g, [-1]) := by
  have t : Kg05.takes (st c m q l g) x.toNat = false := by
    rw [takes_eq]
    apply decide_eq_false
    show ¬ (_ ∧ c.toNat < 4294967295)
    unfold cMag at h
    omega
  have e : Kg05.spec (st c m q l g) (.add x.toNat) = (st c m q l g, Kg05.num (-1)) := by
    unfold Kg05.spec
    dsimp only
    rw [if_neg (by rw [t]; decide)]
  show (let y := Kg05.spec (st c m q l g) (.add x.toNat); (y.1, y.2.value :: y.2.out.toList)) = _
  rw [e]
  rfl
theorem s_add {x l' g' : Int} (h : cMag x ≤ 6408622269748215808) (h0 : 0 ≤ c) (h1 : c < 4294967295)
    (hl : l'.toNat = if c = 0 ∨ cUnits x < cUnits l then x.toNat else l.toNat) (hg : g'.toNat = if c = 0 ∨ cUnits g < cUnits x then x.toNat else g.toNat) :
    stp (st c m q l g) 1 x = (st (c + 1) (cPlus m (cCount (cMinus x m) (c + 1))) (cPlus q (cTimes (cMinus x m) (cMinus x (cPlus m (cCount (cMinus x m) (c + 1)))))) l' g', [0]) := by
  have t : Kg05.takes (st c m q l g) x.toNat = true := by
    rw [takes_eq]
    apply decide_eq_true
    show (_ ∧ c.toNat < 4294967295)
    unfold cMag at h
    omega
  have e : Kg05.spec (st c m q l g) (.add x.toNat) = (Kg05.added (st c m q l g) x.toNat, Kg05.num 0) := by
    unfold Kg05.spec
    dsimp only
    rw [if_pos t]
  have a : Kg05.added (st c m q l g) x.toNat = st (c + 1) (cPlus m (cCount (cMinus x m) (c + 1))) (cPlus q (cTimes (cMinus x m) (cMinus x (cPlus m (cCount (cMinus x m) (c + 1)))))) l' g' := by
    have n : (c + 1).toNat = c.toNat + 1 := by omega
    have ll : (if (st c m q l g).n = 0 ∨ Kg05.less x.toNat (st c m q l g).least = true then x.toNat else (st c m q l g).least) = l'.toNat := by
      rw [hl]
      have : ((st c m q l g).n = 0 ∨ Kg05.less x.toNat (st c m q l g).least = true) ↔ (c = 0 ∨ cUnits x < cUnits l) := by
        unfold Kg05.less cUnits st
        dsimp only
        rw [decide_eq_true_eq]
        constructor <;> intro h <;> rcases h with h | h <;> first | exact Or.inr h | exact Or.inl (by omega)
      simp only [this]
      rfl
    have gg : (if (st c m q l g).n = 0 ∨ Kg05.less (st c m q l g).most x.toNat = true then x.toNat else (st c m q l g).most) = g'.toNat := by
      rw [hg]
      have : ((st c m q l g).n = 0 ∨ Kg05.less (st c m q l g).most x.toNat = true) ↔ (c = 0 ∨ cUnits g < cUnits x) := by
        unfold Kg05.less cUnits st
        dsimp only
        rw [decide_eq_true_eq]
        constructor <;> intro h <;> rcases h with h | h <;> first | exact Or.inr h | exact Or.inl (by omega)
      simp only [this]
      rfl
    unfold Kg05.added
    dsimp only
    rw [ll, gg]
    unfold st cPlus cTimes cMinus cCount
    rw [n]
    simp only [Int.toNat_natCast]
  show (let y := Kg05.spec (st c m q l g) (.add x.toNat); (y.1, y.2.value :: y.2.out.toList)) = _
  rw [e, a]
  rfl
end
end My
end
section
namespace My
open PySem PyProof.Rows

def cWhole (y : Int) : Int := Kg05.whole y.toNat
section
variable {c m q l g : Int}
theorem steps_spec {x : Int} : stp (st c m q l g) 9 x = (let y := Kg05.spec (st c m q l g) (.steps x.toNat); (y.1, y.2.value :: y.2.out.toList)) := rfl
theorem good_step {x : Int} (h0 : 0 ≤ x) (h1 : x < 18446744073709551616) :
    (Kg05.isNan x.toNat = true ∨ Kg05.finite x.toNat = false ∨ Kg05.mag x.toNat = 0 ∨ Kg05.negative x.toNat = true) ↔ ¬ (0 < x ∧ x < 9218868437227405312) := by
  unfold Kg05.isNan Kg05.finite Kg05.negative Kg05.mag Kg05.SIGN Kg05.INFINITY
  rw [decide_eq_true_eq, decide_eq_false_iff_not, decide_eq_true_eq]
  omega
theorem s_steps_bad {x : Int} (h0 : 0 ≤ x) (h1 : x < 18446744073709551616) (h : ¬ (0 < x ∧ x < 9218868437227405312)) : stp (st c m q l g) 9 x = (st c m q l g, [-1]) := by
  have e : Kg05.spec (st c m q l g) (.steps x.toNat) = (st c m q l g, Kg05.num (-1)) := by
    unfold Kg05.spec
    dsimp only
    rw [if_pos ((good_step h0 h1).mpr h)]
  rw [steps_spec, e]
  rfl
theorem fin_iff (x : Nat) : Kg05.finite x = false ↔ 9218868437227405312 ≤ Kg05.mag x := by
  unfold Kg05.finite Kg05.INFINITY
  rw [decide_eq_false_iff_not]
  omega
theorem s_steps_far {x : Int} (h0 : 0 ≤ x) (h1 : x < 18446744073709551616) (h : 9218868437227405312 ≤ cMag (cOver m x) ∨ cWhole (cOver m x) < -9223372036854775808 ∨ 9223372036854775808 ≤ cWhole (cOver m x)) :
    stp (st c m q l g) 9 x = (st c m q l g, [-1]) := by
  by_cases hg : 0 < x ∧ x < 9218868437227405312
  · have e : Kg05.spec (st c m q l g) (.steps x.toNat) = (st c m q l g, Kg05.num (-1)) := by
      unfold Kg05.spec
      dsimp only
      rw [if_neg (fun z => (good_step h0 h1).mp z hg), if_pos]
      rw [fin_iff]
      unfold cMag cWhole cOver at h
      rw [Int.toNat_natCast] at h
      have s : (st c m q l g).mean = m.toNat := rfl
      rw [s]
      rcases h with h | h | h
      · exact .inl (by omega)
      · exact .inr (.inl h)
      · exact .inr (.inr h)
    rw [steps_spec, e]
    rfl
  · exact s_steps_bad h0 h1 hg
theorem s_steps {x : Int} (h0 : 0 < x) (h1 : x < 9218868437227405312) (h : cMag (cOver m x) < 9218868437227405312) (h2 : -9223372036854775808 ≤ cWhole (cOver m x)) (h3 : cWhole (cOver m x) < 9223372036854775808) :
    stp (st c m q l g) 9 x = (st c m q l g, [0, cWhole (cOver m x)]) := by
  have e : Kg05.spec (st c m q l g) (.steps x.toNat) = (st c m q l g, ⟨0, some (cWhole (cOver m x))⟩) := by
    unfold Kg05.spec
    dsimp only
    have s : (st c m q l g).mean = m.toNat := rfl
    rw [if_neg (fun z => (good_step (by omega) (by omega)).mp z ⟨h0, h1⟩), s]
    have n : ¬ (Kg05.finite (Kg05.quotient m.toNat x.toNat) = false ∨ Kg05.whole (Kg05.quotient m.toNat x.toNat) < -2 ^ 63 ∨ 2 ^ 63 ≤ Kg05.whole (Kg05.quotient m.toNat x.toNat)) := by
      rw [fin_iff]
      unfold cMag cWhole cOver at *
      rw [Int.toNat_natCast] at h h2 h3
      omega
    rw [if_neg n]
    unfold cWhole cOver
    rw [Int.toNat_natCast]
  rw [steps_spec, e]
  rfl
end
theorem one_pos : (0 : Int) < ((2 ^ 1074 : Nat) : Int) := by
  have := two_pos 1074
  generalize 2 ^ 1074 = z at *
  omega
theorem whole_pos {y : Int} (h : ¬ Kg05.negative y.toNat = true) : (cSize y).fdiv ((2 ^ 1074 : Nat) : Int) = cWhole y := by
  unfold cWhole Kg05.whole Kg05.val
  rw [if_neg h, Int.fdiv_eq_ediv_of_nonneg _ (by have := one_pos; omega), Int.tdiv_eq_ediv_of_nonneg (by omega)]
  rfl
theorem whole_neg {y : Int} (h : Kg05.negative y.toNat = true) : -(cSize y).fdiv ((2 ^ 1074 : Nat) : Int) = cWhole y := by
  unfold cWhole Kg05.whole Kg05.val
  rw [if_pos h, Int.fdiv_eq_ediv_of_nonneg _ (by have := one_pos; omega), Int.neg_tdiv, Int.tdiv_eq_ediv_of_nonneg (by omega)]
  rfl
/-- where a number lies -/
theorem side_nan {x m : Int} (h : 9218868437227405312 < cMag x) : Kg05.side x.toNat m.toNat = 2 := by
  unfold Kg05.side Kg05.isNan Kg05.INFINITY
  unfold cMag at h
  rw [if_pos (decide_eq_true (by omega))]
theorem side_num {x m : Int} (h : cMag x ≤ 9218868437227405312) (hm : cMag m < 9218868437227405312) : Kg05.side x.toNat m.toNat = if cUnits x < cUnits m then -1 else if cUnits x = cUnits m then 0 else 1 := by
  unfold Kg05.side
  have n : Kg05.isNan x.toNat = false := by
    unfold Kg05.isNan Kg05.INFINITY
    unfold cMag at h
    exact decide_eq_false (by omega)
  rw [if_neg (by rw [n]; decide)]
  by_cases f : Kg05.finite x.toNat = false
  · rw [if_pos f]
    rw [fin_iff] at f
    unfold cMag at h hm
    have a := val_lt_iff x.toNat m.toNat
    have b := val_eq_iff x.toNat m.toNat
    unfold key at a b
    unfold cUnits
    by_cases s : Kg05.negative x.toNat = true
    · rw [if_pos s] at a b ⊢
      rw [if_pos (a.mpr (by split <;> omega))]
    · rw [if_neg s] at a b ⊢
      rw [if_neg (fun z => by have := a.mp z; split at this <;> omega), if_neg (fun z => by have := b.mp z; split at this <;> omega)]
  · rw [if_neg f]
    rfl
end My
end
section
namespace My

theorem rounded_le {n s c : Nat} (hs : 0 < s) (h : n ≤ c * s) : Kg05.rounded n s ≤ c := by
  unfold Kg05.rounded
  dsimp only
  have e := Nat.div_add_mod n s
  have r := Nat.mod_lt n hs
  have q1 : n / s ≤ c := (Nat.div_le_iff_le_mul_add_pred hs).mpr (by rw [Nat.mul_comm]; omega)
  rcases Nat.lt_or_eq_of_le q1 with h1 | h1
  · split
    · omega
    · split <;> omega
  · have z : n % s = 0 := by
      rw [h1, Nat.mul_comm] at e; omega
    rw [z, if_pos (by omega)]
    omega
/-- The bits of 2^k, counted in the least double. -/
def pw (k : Nat) : Nat := (k - 51) * 2 ^ 52
theorem scale_pw {k : Nat} (h : 52 ≤ k) : Kg05.scale (pw k) = 2 ^ k := by
  have e : pw k = (k - 52) * 2 ^ 52 + 2 ^ 52 := by unfold pw; omega
  rw [e, scale_of _ _ (by decide) (by decide), ← Nat.pow_add]
  congr 1
  omega
theorem near_le_pw {n d k : Nat} (hd : 0 < d) (hk : 52 ≤ k) (h : n ≤ 2 ^ k * d) : Kg05.near n d ≤ pw k := by
  unfold Kg05.near
  dsimp only
  apply Nat.le_trans (Nat.min_le_right _ _)
  have hq : n / d ≤ 2 ^ k := (Nat.div_le_iff_le_mul_add_pred hd).mpr (by rw [Nat.mul_comm]; omega)
  have hn : n < (n / d + 1) * d := by
    have := Nat.div_add_mod n d
    have := Nat.mod_lt n hd
    rw [Nat.add_mul, Nat.one_mul, Nat.mul_comm (n / d)]
    omega
  unfold pw
  by_cases hs : n / d < 2 ^ 53
  · rw [if_pos hs, Nat.pow_zero, Nat.mul_one, Nat.zero_mul, Nat.zero_add]
    by_cases h52 : k = 52
    · subst h52
      have := rounded_le hd h
      omega
    · have := rounded_le (c := 2 ^ 53) hd (Nat.le_trans (Nat.le_of_lt hn) (Nat.mul_le_mul_right _ hs))
      omega
  · rw [if_neg hs]
    have h0 : n / d ≠ 0 := by omega
    have l53 : 53 ≤ Nat.log2 (n / d) := (le_log2 h0).mpr (by omega)
    have a := (le_log2 h0).mp (Nat.le_refl (Nat.log2 (n / d)))
    have b := (log2_lt h0).mp (Nat.lt_succ_self (Nat.log2 (n / d)))
    generalize Nat.log2 (n / d) = L at a b l53 ⊢
    have hL : L ≤ k := by
      apply Nat.le_of_not_lt
      intro h'
      have : 2 ^ (k + 1) ≤ 2 ^ L := Nat.pow_le_pow_right (by decide) h'
      rw [Nat.pow_succ] at this
      have := two_pos k
      omega
    have sp : 0 < d * 2 ^ (L - 52) := Nat.mul_pos hd (two_pos _)
    rcases Nat.lt_or_eq_of_le hL with h1 | h1
    · have up : n ≤ 2 ^ 53 * (d * 2 ^ (L - 52)) := by
        have e : 2 ^ 53 * (d * 2 ^ (L - 52)) = 2 ^ (L + 1) * d := by
          rw [Nat.mul_comm d, ← Nat.mul_assoc, ← Nat.pow_add, show 53 + (L - 52) = L + 1 by omega]
        rw [e]
        exact Nat.le_trans (Nat.le_of_lt hn) (Nat.mul_le_mul_right _ b)
      have := rounded_le sp up
      omega
    · have up : n ≤ 2 ^ 52 * (d * 2 ^ (L - 52)) := by
        have e : 2 ^ 52 * (d * 2 ^ (L - 52)) = 2 ^ L * d := by
          rw [Nat.mul_comm d, ← Nat.mul_assoc, ← Nat.pow_add, show 52 + (L - 52) = L by omega]
        rw [e, h1]
        exact h
      have := rounded_le sp up
      omega
theorem mag_signed (b : Bool) {m : Nat} (h : m < 2 ^ 63) : Kg05.mag (Kg05.signed b m) = m := by
  unfold Kg05.mag Kg05.signed Kg05.SIGN
  cases b
  · rw [if_neg (by decide)]; omega
  · rw [if_pos rfl]; omega
/-- a double of at most 2^k units -/
def Bnd (k x : Nat) : Prop := Kg05.scale (Kg05.mag x) ≤ 2 ^ k
theorem Bnd.mono {j k x : Nat} (h : Bnd j x) (hjk : j ≤ k) : Bnd k x := Nat.le_trans h (Nat.pow_le_pow_right (by decide) hjk)
theorem val_abs (x : Nat) : (Kg05.val x).natAbs = Kg05.scale (Kg05.mag x) := by
  unfold Kg05.val
  split <;> simp
theorem Bnd.near {n d k : Nat} {b : Bool} (hd : 0 < d) (hk : 52 ≤ k) (h : n ≤ 2 ^ k * d) : Bnd k (Kg05.signed b (Kg05.near n d)) := by
  unfold Bnd
  rw [mag_signed _ (near_lt _ _), ← scale_pw hk]
  exact scale_le_iff.mpr (near_le_pw hd hk h)
theorem Bnd.sum {x y k : Nat} (hk : 52 ≤ k) (hx : Bnd k x) (hy : Bnd k y) : Bnd (k + 1) (Kg05.sum x y) := by
  unfold Kg05.sum
  split
  · unfold Bnd
    rw [mag_signed _ (by decide)]
    exact Nat.zero_le _
  · refine Bnd.near (by decide) (by omega) ?_
    have a := Int.natAbs_add_le (Kg05.val x) (Kg05.val y)
    rw [val_abs, val_abs] at a
    unfold Bnd at hx hy
    rw [Nat.pow_succ]
    omega
theorem mag_opposite (y : Nat) : Kg05.mag (Kg05.opposite y) = Kg05.mag y := mag_signed _ (Nat.mod_lt _ (by decide))
theorem Bnd.minus {x y k : Nat} (hk : 52 ≤ k) (hx : Bnd k x) (hy : Bnd k y) : Bnd (k + 1) (Kg05.minus x y) := by
  refine Bnd.sum hk hx ?_
  unfold Bnd
  rw [mag_opposite]
  exact hy
theorem Bnd.count {x n k : Nat} (hk : 52 ≤ k) (h0 : 0 < n) (h1 : n < 2 ^ 53) (hx : Bnd k x) : Bnd k (Kg05.quotient x (Kg05.ofNat n)) := by
  rw [quotient_count _ _ h0 h1]
  refine Bnd.near h0 hk (Nat.le_trans hx ?_)
  exact Nat.le_mul_of_pos_right _ h0
theorem largest_pow : Kg05.LARGEST = 2 ^ 1474 := by
  unfold Kg05.LARGEST Kg05.ONE
  rw [← Nat.pow_add]
theorem infinity_scale : Kg05.scale 9218868437227405312 = 2 ^ 2098 := by
  have h := scale_pw (k := 2098) (by decide)
  have e : pw 2098 = 9218868437227405312 := by decide
  rw [e] at h
  exact h
/-- the mean stays finite over few readings -/
theorem Bnd.mean {x m n : Nat} (hx : Kg05.mag x ≤ 6408622269748215808) (hm : Bnd (1474 + 2 * n) m) (hn : n < 2 ^ 52) : Bnd (1474 + 2 * (n + 1)) (Kg05.sum m (Kg05.quotient (Kg05.minus x m) (Kg05.ofNat (n + 1)))) := by
  have bx : Bnd (1474 + 2 * n) x := by
    have a : Bnd 1474 x := by
      unfold Bnd
      rw [← largest_pow, ← largest]
      exact scale_le_iff.mpr hx
    exact a.mono (by omega)
  have d := Bnd.minus (by omega) bx hm
  have q := Bnd.count (by omega) (show 0 < n + 1 by omega) (by omega) d
  have z := Bnd.sum (k := 1474 + 2 * n + 1) (by omega) (hm.mono (by omega)) q
  exact z.mono (by omega)
theorem Bnd.finite {k x : Nat} (h : Bnd k x) (hk : k < 2098) : Kg05.mag x < 9218868437227405312 := by
  rw [← scale_lt_iff, infinity_scale]
  exact Nat.lt_of_le_of_lt h (Nat.pow_lt_pow_right (by decide) hk)
end My
end
section
namespace My

theorem rounded_ge {n s c : Nat} (hs : 0 < s) (h : c * s ≤ n) : c ≤ Kg05.rounded n s := by
  unfold Kg05.rounded
  dsimp only
  have q1 : c ≤ n / s := (Nat.le_div_iff_mul_le hs).mpr h
  split
  · omega
  · split <;> omega
/-- a double's parts: its last place and how many of these -/
theorem parts (r : Nat) : ∃ e k, r = e * 2 ^ 52 + k ∧ Kg05.scale r = k * 2 ^ e ∧ k < 2 ^ 53 ∧ (e = 0 ∨ 2 ^ 52 ≤ k) := by
  by_cases z : r / 2 ^ 52 = 0
  · refine ⟨0, r, by omega, ?_, by omega, .inl rfl⟩
    unfold Kg05.scale
    rw [if_pos z]; omega
  · refine ⟨r / 2 ^ 52 - 1, 2 ^ 52 + r % 2 ^ 52, by omega, ?_, by omega, .inr (by omega)⟩
    unfold Kg05.scale
    rw [if_neg z]
theorem near_parts (n d : Nat) (hd : 0 < d) : ∃ e, Kg05.near n d = min Kg05.INFINITY (e * 2 ^ 52 + Kg05.rounded n (d * 2 ^ e)) ∧ n < 2 ^ 53 * (d * 2 ^ e) ∧ (e = 0 ∨ 2 ^ 52 * (d * 2 ^ e) ≤ n) := by
  have hn : n < (n / d + 1) * d := by
    have := Nat.div_add_mod n d
    have := Nat.mod_lt n hd
    rw [Nat.add_mul, Nat.one_mul, Nat.mul_comm (n / d)]
    omega
  have hm : n / d * d ≤ n := Nat.div_mul_le_self n d
  by_cases hs : n / d < 2 ^ 53
  · refine ⟨0, ?_, ?_, .inl rfl⟩
    · unfold Kg05.near; dsimp only; rw [if_pos hs]
    · rw [Nat.pow_zero, Nat.mul_one]
      exact Nat.lt_of_lt_of_le hn (Nat.mul_le_mul_right _ hs)
  · have h0 : n / d ≠ 0 := by omega
    have l53 : 53 ≤ Nat.log2 (n / d) := (le_log2 h0).mpr (by omega)
    have a := (le_log2 h0).mp (Nat.le_refl (Nat.log2 (n / d)))
    have b := (log2_lt h0).mp (Nat.lt_succ_self (Nat.log2 (n / d)))
    refine ⟨Nat.log2 (n / d) - 52, ?_, ?_, .inr ?_⟩
    · unfold Kg05.near; dsimp only; rw [if_neg hs]
    · generalize Nat.log2 (n / d) = L at a b l53 ⊢
      have e : 2 ^ 53 * (d * 2 ^ (L - 52)) = 2 ^ (L + 1) * d := by
        rw [Nat.mul_comm d, ← Nat.mul_assoc, ← Nat.pow_add, show 53 + (L - 52) = L + 1 by omega]
      rw [e]
      exact Nat.lt_of_lt_of_le hn (Nat.mul_le_mul_right _ b)
    · generalize Nat.log2 (n / d) = L at a b l53 ⊢
      have e : 2 ^ 52 * (d * 2 ^ (L - 52)) = 2 ^ L * d := by
        rw [Nat.mul_comm d, ← Nat.mul_assoc, ← Nat.pow_add, show 52 + (L - 52) = L by omega]
      rw [e]
      exact Nat.le_trans (Nat.mul_le_mul_right _ a) hm
theorem sp (d e : Nat) (hd : 0 < d) : 0 < d * 2 ^ e := Nat.mul_pos hd (two_pos _)
/-- rounding keeps below a double -/
theorem near_le_of {n d r : Nat} (hd : 0 < d) (h : n ≤ Kg05.scale r * d) : Kg05.near n d ≤ r := by
  obtain ⟨e, k, hr, hs, k1, hk⟩ := parts r
  obtain ⟨f, hf, f1, f0⟩ := near_parts n d hd
  rw [hf, hr]
  apply Nat.le_trans (Nat.min_le_right _ _)
  rw [hs] at h
  have hke : k * 2 ^ e * d = k * (d * 2 ^ e) := by rw [Nat.mul_assoc, Nat.mul_comm (2 ^ e)]
  rw [hke] at h
  rcases Nat.lt_trichotomy f e with c | c | c
  · have a := rounded_le (sp d f hd) (Nat.le_of_lt f1)
    rcases hk with hk | hk <;> omega
  · subst c
    have a := rounded_le (sp d f hd) h
    omega
  · exfalso
    rcases f0 with z | z
    · omega
    · have p : d * 2 ^ (e + 1) ≤ d * 2 ^ f := Nat.mul_le_mul_left _ (Nat.pow_le_pow_right (by decide) c)
      rw [Nat.pow_succ, ← Nat.mul_assoc] at p
      have p2 := Nat.mul_le_mul_left (2 ^ 52) p
      have p3 := Nat.mul_lt_mul_of_pos_right k1 (sp d e hd)
      generalize d * 2 ^ e = u at *
      generalize d * 2 ^ f = v at *
      omega
theorem le_near_of {n d r : Nat} (hd : 0 < d) (hr9 : r ≤ Kg05.INFINITY) (h : Kg05.scale r * d ≤ n) : r ≤ Kg05.near n d := by
  obtain ⟨e, k, hr, hs, k1, hk⟩ := parts r
  obtain ⟨f, hf, f1, f0⟩ := near_parts n d hd
  rw [hf]
  refine Nat.le_min.mpr ⟨hr9, ?_⟩
  rw [hr]
  rw [hs] at h
  have hke : k * 2 ^ e * d = k * (d * 2 ^ e) := by rw [Nat.mul_assoc, Nat.mul_comm (2 ^ e)]
  rw [hke] at h
  rcases Nat.lt_trichotomy f e with c | c | c
  · exfalso
    rcases hk with z | z
    · omega
    · have p : d * 2 ^ (f + 1) ≤ d * 2 ^ e := Nat.mul_le_mul_left _ (Nat.pow_le_pow_right (by decide) c)
      rw [Nat.pow_succ, ← Nat.mul_assoc] at p
      have p2 := Nat.mul_le_mul_left (2 ^ 52) p
      have p3 := Nat.mul_le_mul_right (d * 2 ^ e) z
      generalize d * 2 ^ e = u at *
      generalize d * 2 ^ f = v at *
      omega
  · subst c
    have a := rounded_ge (sp d f hd) h
    omega
  · rcases f0 with z | z
    · omega
    · have a := rounded_ge (sp d f hd) z
      omega
theorem near_self {r : Nat} (h : r ≤ Kg05.INFINITY) : Kg05.near (Kg05.scale r) 1 = r :=
  Nat.le_antisymm (near_le_of (by decide) (by omega)) (le_near_of (by decide) h (by omega))
theorem near_self_mul {r n : Nat} (hn : 0 < n) (h : r ≤ Kg05.INFINITY) : Kg05.near (Kg05.scale r * n) n = r :=
  Nat.le_antisymm (near_le_of hn (Nat.le_refl _)) (le_near_of hn h (Nat.le_refl _))
end My
end
section
namespace My

theorem val_signed (b : Bool) {m : Nat} (h : m < 2 ^ 63) : Kg05.val (Kg05.signed b m) = if b = true then -(Kg05.scale m : Int) else (Kg05.scale m : Int) := by
  unfold Kg05.val
  rw [mag_signed b h]
  cases b
  · have : Kg05.negative (Kg05.signed false m) = false := by
      unfold Kg05.negative Kg05.signed Kg05.SIGN
      rw [if_neg (by decide)]
      exact decide_eq_false (by omega)
    rw [this]
  · have : Kg05.negative (Kg05.signed true m) = true := by
      unfold Kg05.negative Kg05.signed Kg05.SIGN
      rw [if_pos rfl]
      exact decide_eq_true (by omega)
    rw [this]
theorem neg_signed (b : Bool) {m : Nat} (h : m < 2 ^ 63) : Kg05.negative (Kg05.signed b m) = b := by
  cases b
  · unfold Kg05.negative Kg05.signed Kg05.SIGN
    rw [if_neg (by decide)]
    exact decide_eq_false (by omega)
  · unfold Kg05.negative Kg05.signed Kg05.SIGN
    rw [if_pos rfl]
    exact decide_eq_true (by omega)
theorem val_sum (x y : Nat) : Kg05.val (Kg05.sum x y) = if Kg05.val x + Kg05.val y < 0 then -(Kg05.scale (Kg05.near (Kg05.val x + Kg05.val y).natAbs 1) : Int) else (Kg05.scale (Kg05.near (Kg05.val x + Kg05.val y).natAbs 1) : Int) := by
  unfold Kg05.sum
  by_cases h : Kg05.val x + Kg05.val y = 0
  · rw [if_pos h, val_signed _ (by decide), if_neg (show ¬ Kg05.val x + Kg05.val y < 0 by omega), h]
    have n0 : Kg05.near (Int.natAbs 0) 1 = 0 := by decide
    rw [n0, scale_zero]
    split <;> rfl
  · rw [if_neg h, val_signed _ (near_lt _ _)]
    simp only [decide_eq_true_eq]
theorem mag_le_inf {x : Nat} (h : Kg05.mag x < 9218868437227405312) : Kg05.mag x ≤ Kg05.INFINITY := by unfold Kg05.INFINITY; omega
theorem sum_le {a b x : Nat} (hx : Kg05.mag x < 9218868437227405312) (h : Kg05.val a + Kg05.val b ≤ Kg05.val x) : Kg05.val (Kg05.sum a b) ≤ Kg05.val x := by
  rw [val_sum]
  generalize Kg05.val a + Kg05.val b = t at h
  unfold Kg05.val at h ⊢
  by_cases ht : t < 0
  · rw [if_pos ht]
    by_cases n : Kg05.negative x = true
    · rw [if_pos n] at h ⊢
      have a1 := le_near_of (n := t.natAbs) (d := 1) (by decide) (mag_le_inf hx) (by omega)
      have := scale_le_iff.mpr a1
      omega
    · rw [if_neg n]; omega
  · rw [if_neg ht]
    by_cases n : Kg05.negative x = true
    · rw [if_pos n] at h ⊢
      have a1 := near_le_of (n := t.natAbs) (d := 1) (r := Kg05.mag x) (by decide) (by omega)
      have := scale_le_iff.mpr a1
      omega
    · rw [if_neg n] at h ⊢
      have a1 := near_le_of (n := t.natAbs) (d := 1) (r := Kg05.mag x) (by decide) (by omega)
      have := scale_le_iff.mpr a1
      omega
theorem sum_ge {a b x : Nat} (hx : Kg05.mag x < 9218868437227405312) (h : Kg05.val x ≤ Kg05.val a + Kg05.val b) : Kg05.val x ≤ Kg05.val (Kg05.sum a b) := by
  rw [val_sum]
  generalize Kg05.val a + Kg05.val b = t at h
  unfold Kg05.val at h ⊢
  by_cases ht : t < 0
  · rw [if_pos ht]
    by_cases n : Kg05.negative x = true
    · rw [if_pos n] at h ⊢
      have a1 := near_le_of (n := t.natAbs) (d := 1) (r := Kg05.mag x) (by decide) (by omega)
      have := scale_le_iff.mpr a1
      omega
    · rw [if_neg n] at h; omega
  · rw [if_neg ht]
    by_cases n : Kg05.negative x = true
    · rw [if_pos n] at h ⊢
      omega
    · rw [if_neg n] at h ⊢
      have a1 := le_near_of (n := t.natAbs) (d := 1) (by decide) (mag_le_inf hx) (by omega)
      have := scale_le_iff.mpr a1
      omega
theorem val_opposite (y : Nat) : Kg05.val (Kg05.opposite y) = -Kg05.val y := by
  unfold Kg05.opposite
  have hm : Kg05.mag y < 2 ^ 63 := Nat.mod_lt _ (by decide)
  rw [val_signed _ hm]
  unfold Kg05.val
  cases Kg05.negative y <;> simp
/-- a part of a rounded distance is no longer than the distance -/
theorem part_le {D n : Nat} (hn : 2 ≤ n) : Kg05.scale (Kg05.near (Kg05.scale (Kg05.near D 1)) n) ≤ D := by
  obtain ⟨f, hf, f1, f0⟩ := near_parts D 1 (by decide)
  rw [Nat.one_mul] at f1 f0
  by_cases z : f = 0
  · subst z
    rw [Nat.pow_zero, Nat.mul_one] at f1
    have e : Kg05.near D 1 = D := by
      rw [hf, Nat.zero_mul, Nat.zero_add, Nat.one_mul]
      have := rounded_exact D (2 ^ 0) (by decide)
      rw [Nat.pow_zero, Nat.mul_one] at this
      rw [Nat.pow_zero, this]
      apply Nat.min_eq_right
      unfold Kg05.INFINITY
      omega
    have s : Kg05.scale D = D := by
      by_cases h : D < 2 ^ 52
      · unfold Kg05.scale; rw [if_pos (by omega)]
      · have := scale_of 0 D (by omega) f1
        rw [Nat.zero_mul, Nat.zero_add, Nat.pow_zero, Nat.mul_one] at this
        exact this
    rw [e]
    have a := near_le_of (n := Kg05.scale D) (d := n) (r := D) (by omega) (Nat.le_mul_of_pos_right _ (by omega))
    have := scale_le_iff.mpr a
    omega
  · have f0 := f0.resolve_left z
    have p1 : Kg05.near D 1 ≤ pw (53 + f) := near_le_pw (by decide) (by omega) (by rw [Nat.mul_one, Nat.pow_add]; omega)
    have p2 := scale_le_iff.mpr p1
    rw [scale_pw (by omega)] at p2
    have a := near_le_of (n := Kg05.scale (Kg05.near D 1)) (d := n) (r := pw (52 + f)) (by omega) (by
      rw [scale_pw (by omega)]
      have : 2 ^ (52 + f) * 2 ≤ 2 ^ (52 + f) * n := Nat.mul_le_mul_left _ hn
      rw [show 53 + f = 52 + f + 1 by omega, Nat.pow_succ] at p2
      omega)
    have a2 := scale_le_iff.mpr a
    rw [scale_pw (by omega), Nat.pow_add] at a2
    omega
theorem part_one {D : Nat} {r : Nat} (hr : r ≤ Kg05.INFINITY) (h : D = Kg05.scale r) : Kg05.scale (Kg05.near (Kg05.scale (Kg05.near D 1)) 1) ≤ D := by
  rw [h, near_self hr, near_self hr]
  exact Nat.le_refl _
/-- the new mean does not pass the reading -/
theorem toward {x m n : Nat} (hx : Kg05.mag x < 9218868437227405312) (h0 : 0 < n) (h1 : n < 2 ^ 53) (hn : 2 ≤ n ∨ Kg05.val m = 0) :
    (Kg05.val m ≤ Kg05.val x → Kg05.val (Kg05.sum m (Kg05.quotient (Kg05.minus x m) (Kg05.ofNat n))) ≤ Kg05.val x) ∧
    (Kg05.val x ≤ Kg05.val m → Kg05.val x ≤ Kg05.val (Kg05.sum m (Kg05.quotient (Kg05.minus x m) (Kg05.ofNat n)))) := by
  have d1 : Kg05.val x + Kg05.val (Kg05.opposite m) = Kg05.val x - Kg05.val m := by rw [val_opposite]; omega
  have part : Kg05.scale (Kg05.near (Kg05.scale (Kg05.near (Kg05.val x - Kg05.val m).natAbs 1)) n) ≤ (Kg05.val x - Kg05.val m).natAbs := by
    by_cases n2 : 2 ≤ n
    · exact part_le n2
    · have e1 : n = 1 := by omega
      have e0 := hn.resolve_left n2
      subst e1
      refine part_one (r := Kg05.mag x) (mag_le_inf hx) ?_
      rw [e0, Int.sub_zero, val_abs]
  have q : Kg05.val (Kg05.quotient (Kg05.minus x m) (Kg05.ofNat n)) = if Kg05.val x - Kg05.val m < 0 then -(Kg05.scale (Kg05.near (Kg05.scale (Kg05.near (Kg05.val x - Kg05.val m).natAbs 1)) n) : Int) else (Kg05.scale (Kg05.near (Kg05.scale (Kg05.near (Kg05.val x - Kg05.val m).natAbs 1)) n) : Int) := by
    rw [quotient_count _ _ h0 h1, val_signed _ (near_lt _ _)]
    unfold Kg05.minus Kg05.sum
    rw [d1]
    by_cases z : Kg05.val x - Kg05.val m = 0
    · rw [if_pos z, mag_signed _ (by decide), neg_signed _ (by decide), z]
      have n0 : Kg05.near (Int.natAbs 0) 1 = 0 := by decide
      have n1 : Kg05.near 0 n = 0 := by
        have := near_le_of (n := 0) (d := n) (r := 0) h0 (by omega)
        omega
      rw [n0, scale_zero, n1, scale_zero]
      split <;> rfl
    · rw [if_neg z, mag_signed _ (near_lt _ _), neg_signed _ (near_lt _ _)]
      simp only [decide_eq_true_eq]
  constructor
  · intro h
    refine sum_le hx ?_
    rw [q, if_neg (by omega)]
    omega
  · intro h
    refine sum_ge hx ?_
    rw [q]
    split <;> omega
theorem minus_zero {x y : Nat} (h : Kg05.val x = Kg05.val y) : Kg05.mag (Kg05.minus x y) = 0 := by
  unfold Kg05.minus Kg05.sum
  rw [val_opposite, if_pos (by omega), mag_signed _ (by decide)]
theorem minus_up {x y : Nat} (h : Kg05.val y < Kg05.val x) : Kg05.negative (Kg05.minus x y) = false := by
  unfold Kg05.minus Kg05.sum
  rw [val_opposite, if_neg (by omega), neg_signed _ (near_lt _ _)]
  exact decide_eq_false (by omega)
theorem minus_down {x y : Nat} (h : Kg05.val x < Kg05.val y) : Kg05.negative (Kg05.minus x y) = true := by
  unfold Kg05.minus Kg05.sum
  rw [val_opposite, if_neg (by omega), neg_signed _ (near_lt _ _)]
  exact decide_eq_true (by omega)
theorem near_zero (d : Nat) : Kg05.near 0 d = 0 := by
  unfold Kg05.near Kg05.rounded
  simp
theorem prod_zero {x y : Nat} (h : Kg05.mag x = 0 ∨ Kg05.mag y = 0) : Kg05.mag (Kg05.product x y) = 0 := by
  unfold Kg05.product
  rw [mag_signed _ (near_lt _ _)]
  have : Kg05.scale (Kg05.mag x) * Kg05.scale (Kg05.mag y) = 0 := by
    rcases h with h | h <;> rw [h, scale_zero]
    · exact Nat.zero_mul _
    · exact Nat.mul_zero _
  rw [this, near_zero]
theorem prod_neg (x y : Nat) : Kg05.negative (Kg05.product x y) = (Kg05.negative x != Kg05.negative y) := neg_signed _ (near_lt _ _)
theorem sum_up {a b : Nat} (ha : Kg05.negative a = false) (hb : Kg05.negative b = true → Kg05.mag b = 0) : Kg05.negative (Kg05.sum a b) = false := by
  have va : 0 ≤ Kg05.val a := by unfold Kg05.val; rw [if_neg (by rw [ha]; decide)]; omega
  have vb : 0 ≤ Kg05.val b := by
    unfold Kg05.val
    split
    · rename_i h; rw [hb h, scale_zero]; decide
    · omega
  unfold Kg05.sum
  split
  · rw [neg_signed _ (by decide), ha]; rfl
  · rw [neg_signed _ (near_lt _ _)]
    exact decide_eq_false (by omega)
/-- the squares are never below nought -/
theorem squares_up {x m n q : Nat} (hx : Kg05.mag x < 9218868437227405312) (h0 : 0 < n) (h1 : n < 2 ^ 53) (hn : 2 ≤ n ∨ Kg05.val m = 0) (hq : Kg05.negative q = false) :
    Kg05.negative (Kg05.sum q (Kg05.product (Kg05.minus x m) (Kg05.minus x (Kg05.sum m (Kg05.quotient (Kg05.minus x m) (Kg05.ofNat n)))))) = false := by
  obtain ⟨t1, t2⟩ := toward (m := m) hx h0 h1 hn
  generalize Kg05.sum m (Kg05.quotient (Kg05.minus x m) (Kg05.ofNat n)) = m' at *
  refine sum_up hq fun h => ?_
  rw [prod_neg] at h
  rcases Int.lt_trichotomy (Kg05.val x) (Kg05.val m) with c | c | c
  · have t := t2 (by omega)
    rcases Int.lt_or_eq_of_le t with c' | c'
    · rw [minus_down c, minus_down c'] at h; cases h
    · exact prod_zero (.inr (minus_zero c'))
  · exact prod_zero (.inl (minus_zero c))
  · have t := t1 (by omega)
    rcases Int.lt_or_eq_of_le t with c' | c'
    · rw [minus_up c, minus_up c'] at h; cases h
    · exact prod_zero (.inr (minus_zero c'.symm))
end My
end
section
namespace My
open PySem PyProof.Rows
open PySem.Builtin.Int (intBits)

theorem Fits.le {x y : Int} {k : Nat} (h : Fits y k) (h0 : 0 ≤ x) (h1 : x ≤ y) : Fits x k := ⟨by have := h.lt; omega⟩
theorem Fits.log2 {x : Int} {k : Nat} (h : Fits x k) (h0 : x ≠ 0) : x.natAbs.log2 < k := (log2_lt (by omega)).mpr h.lt
/-- what nearest asks -/
structure NOK (n d : Int) : Prop where
  hn : 0 ≤ n
  hd : 0 < d
  fn : Fits n 4300
  fd : Fits d 4300
theorem fdiv_le {n d : Int} (hn : 0 ≤ n) (hd : 0 < d) : 0 ≤ n.fdiv d ∧ n.fdiv d ≤ n := by
  rw [fdiv_nat hn (by omega)]
  have := Nat.div_le_self n.toNat d.toNat
  generalize n.toNat / d.toNat = z at *
  omega
theorem noPy {n d : Int} {k : Nat} (h : Fits d k) (hk : k ≤ 9000) : Builtin.divisionGoesByPylong n d = false := by
  by_cases h0 : d = 0
  · subst h0; exact PyProof.noPylong_small (by decide)
  · exact PyProof.noPylong_of_log2 (Nat.lt_of_lt_of_le (h.log2 h0) hk)
theorem NOK.drop {n d : Int} (h : NOK n d) : 0 ≤ cDrop n d ∧ cDrop n d ≤ 4300 := by
  have a := fdiv_le h.hn h.hd
  have b := (h.fn.le a.1 a.2).bits
  rw [← drop_eq h.hn (by have := h.hd; omega)]
  split <;> omega
theorem pow_cast (k : Nat) : (2 : Int) ^ k = ((2 ^ k : Nat) : Int) := by rw [Int.natCast_pow]; rfl
theorem Fits.pow (k : Nat) : Fits ((2 : Int) ^ k) (k + 1) := ⟨by rw [pow_cast, Int.natAbs_natCast]; exact Nat.pow_lt_pow_right (by decide) (Nat.lt_succ_self k)⟩
theorem NOK.step {n d : Int} (h : NOK n d) : 0 < cStep n d ∧ Fits (cStep n d) 8601 := by
  refine ⟨step_pos h.hd, ?_⟩
  have a := h.drop
  have b := h.fd.mul (Fits.pow (cDrop n d).toNat)
  exact b.mono (by omega)
theorem NOK.kept {n d : Int} (h : NOK n d) : 0 ≤ cKept n d ∧ Fits (cKept n d) 4300 := by
  have a := fdiv_le h.hn h.step.1
  exact ⟨a.1, h.fn.le a.1 a.2⟩
theorem mulOk {a b : Int} {j k : Nat} (ha : Fits a j) (hb : Fits b k) (h : j + k ≤ 134217728) : IntMulOk a b := by
  unfold IntMulOk Builtin.Int.intTooBig
  have x := ha.bits
  have y := hb.bits
  have z : ¬ ((intBits a : Int) + (intBits b : Int) > (bitsLine : Int)) := by
    have e : bitsLine = 134217728 := by decide
    rw [e]
    omega
  rw [decide_eq_false z]
  simp

section
variable {prog : Program} {w : World} {A : Around} {E : Value → Shared → Prop} {s : Shared} {n d x y : Int} {t u : Tok} {Q : Value → Shared → Prop}
theorem st_div (h : NOK n d) (k : Q (.int (n.fdiv d) s.toks) { s with toks := s.toks + 1 }) : wpAny (model prog w) A (binaryOp .FloorDiv (.int n t) (.int d u)) Q E s :=
  PyProof.Rows.floordiv_int (by have := h.hd; omega) k (.inl (noPy h.fd (by decide)))
theorem st_shl (h : NOK n d) (k : 0 < cStep n d → Q (.int (cStep n d) s.toks) { s with toks := s.toks + 1 }) : wpAny (model prog w) A (binaryOp .LShift (.int d t) (.int (cDrop n d) u)) Q E s :=
  PyProof.Rows.lshift_int h.drop.1 (by have a := h.fd.bits; have b := h.drop; omega) (k h.step.1)
theorem st_div2 (h : NOK n d) (k : 0 ≤ cKept n d → Q (.int (cKept n d) s.toks) { s with toks := s.toks + 1 }) : wpAny (model prog w) A (binaryOp .FloorDiv (.int n t) (.int (cStep n d) u)) Q E s :=
  PyProof.Rows.floordiv_int (by have := h.step.1; omega) (k h.kept.1) (.inl (noPy h.step.2 (by decide)))
theorem st_mul (h : NOK n d) (k : Q (.int (cKept n d * cStep n d) s.toks) { s with toks := s.toks + 1 }) : wpAny (model prog w) A (binaryOp .Mult (.int (cKept n d) t) (.int (cStep n d) u)) Q E s :=
  PyProof.Rows.mul_int k (mulOk h.kept.2 h.step.2 (by decide))
theorem st_mulS (k : Fits (cSize x * cSize y) 4198 → 0 ≤ cSize x * cSize y → Q (.int (cSize x * cSize y) s.toks) { s with toks := s.toks + 1 }) : wpAny (model prog w) A (binaryOp .Mult (.int (cSize x) t) (.int (cSize y) u)) Q E s :=
  PyProof.Rows.mul_int (k ((cSize_in x).2.mul (cSize_in y).2) (Int.mul_nonneg (cSize_in x).1 (cSize_in y).1)) (mulOk (cSize_in x).2 (cSize_in y).2 (by decide))
end
end My
end
section
namespace My

theorem odd_coprime (k : Nat) : Nat.Coprime (2 * k + 1) 2 := by
  unfold Nat.Coprime
  rw [Nat.gcd_comm, Nat.gcd_rec, show (2 * k + 1) % 2 = 1 by omega]
  decide
theorem no_tie {k e M j : Nat} (hk : 2 ^ 52 ≤ k) (hM : M < 2 ^ 53) : ((2 * k + 1) * 2 ^ e) ^ 2 ≠ 4 * (M * 2 ^ j) := by
  intro h
  have e1 : (2 * k + 1) * (2 * k + 1) * 2 ^ (2 * e) = M * 2 ^ (j + 2) := by
    have a : ((2 * k + 1) * 2 ^ e) ^ 2 = (2 * k + 1) * (2 * k + 1) * 2 ^ (2 * e) := by
      rw [Nat.mul_pow, Nat.pow_two, ← Nat.pow_mul, Nat.mul_comm e 2]
    rw [← a, h, Nat.pow_add]
    show 4 * (M * 2 ^ j) = M * (2 ^ j * 4)
    rw [Nat.mul_comm 4, Nat.mul_assoc]
  have c : Nat.Coprime ((2 * k + 1) * (2 * k + 1)) (2 ^ (j + 2)) := by
    apply Nat.Coprime.pow_right
    exact Nat.Coprime.mul_left (odd_coprime k) (odd_coprime k)
  have d : (2 * k + 1) * (2 * k + 1) ∣ M * 2 ^ (j + 2) := ⟨_, e1.symm⟩
  have d2 := c.dvd_of_dvd_mul_right d
  have p : 0 < M := by
    apply Nat.pos_of_ne_zero
    intro z
    rw [z, Nat.zero_mul] at e1
    have := Nat.mul_pos (Nat.mul_pos (show 0 < 2 * k + 1 by omega) (show 0 < 2 * k + 1 by omega)) (two_pos (2 * e))
    omega
  have l := Nat.le_of_dvd p d2
  have b : 2 ^ 53 * 2 ^ 53 ≤ (2 * k + 1) * (2 * k + 1) := Nat.mul_le_mul (by omega) (by omega)
  omega
theorem root_ge {n a : Nat} (h : a * a ≤ n) : a ≤ Kg05.rootBelow n := by
  apply Nat.le_of_lt_succ
  apply Nat.lt_of_not_le
  intro h'
  have : (Kg05.rootBelow n + 1) * (Kg05.rootBelow n + 1) ≤ a * a := Nat.mul_self_le_mul_self h'
  have := (rootBelow_spec n).2
  omega
theorem root_lt {n a : Nat} (h : n < a * a) : Kg05.rootBelow n < a := by
  apply Nat.lt_of_not_le
  intro h'
  have := Nat.mul_self_le_mul_self h'
  have := (rootBelow_spec n).1
  omega
theorem root_big {m : Nat} (h0 : 0 < m) : 2 ^ 537 ≤ Kg05.rootBelow (Kg05.scale m * Kg05.ONE) := by
  apply root_ge
  rw [← Nat.pow_add]
  have : Kg05.scale 0 < Kg05.scale m := scale_lt h0
  unfold Kg05.ONE
  exact Nat.le_mul_of_pos_left _ (by omega)
theorem root_small {m : Nat} (h1 : m < 2 ^ 63) : Kg05.rootBelow (Kg05.scale m * Kg05.ONE) < 2 ^ 1587 := by
  apply root_lt
  rw [← Nat.pow_add]
  have a := scale_top m h1
  unfold Kg05.ONE
  have e : 2 ^ (1587 + 1587) = 2 ^ 2100 * 2 ^ 1074 := by rw [← Nat.pow_add]
  rw [e]
  exact Nat.mul_lt_mul_of_pos_right (Nat.lt_of_lt_of_le a (Nat.pow_le_pow_right (by decide) (by decide))) (two_pos _)
theorem root_shift {q : Nat} (h : 2 ^ 53 ≤ q) : 2 ^ 52 ≤ q / 2 ^ (Nat.log2 q - 52) ∧ q / 2 ^ (Nat.log2 q - 52) < 2 ^ 53 := by
  have h0 : q ≠ 0 := by omega
  have l53 : 53 ≤ Nat.log2 q := (le_log2 h0).mpr h
  have a := (le_log2 h0).mp (Nat.le_refl (Nat.log2 q))
  have b := (log2_lt h0).mp (Nat.lt_succ_self (Nat.log2 q))
  generalize Nat.log2 q = L at *
  constructor
  · rw [Nat.le_div_iff_mul_le (two_pos _), ← Nat.pow_add, show 52 + (L - 52) = L by omega]
    exact a
  · rw [Nat.div_lt_iff_lt_mul (two_pos _), ← Nat.pow_add, show 53 + (L - 52) = L + 1 by omega]
    exact b
/-- the root, without its ties and its bound: they cannot be -/
theorem nearRoot_eq {m r : Nat} (h0 : 0 < m) (h1 : m < 2 ^ 63) (hr : r = Kg05.rootBelow (Kg05.scale m * Kg05.ONE)) :
    Kg05.nearRoot (Kg05.scale m * Kg05.ONE) = (bits r - 53) * 2 ^ 52 + (if ((2 * (r / 2 ^ (bits r - 53)) + 1) * 2 ^ (bits r - 53)) ^ 2 < 4 * (Kg05.scale m * Kg05.ONE) then r / 2 ^ (bits r - 53) + 1 else r / 2 ^ (bits r - 53)) := by
  have big := root_big h0
  have small := root_small h1
  rw [← hr] at big small
  have b53 : 2 ^ 53 ≤ r := Nat.le_trans (Nat.pow_le_pow_right (by decide) (by decide)) big
  have n53 : ¬ r < 2 ^ 53 := Nat.not_lt.mpr b53
  have sh : bits r - 53 = Nat.log2 r - 52 := by rw [shift_eq, if_neg n53]
  obtain ⟨k0, k1⟩ := root_shift b53
  have l : Nat.log2 r < 1587 := (log2_lt (by have := two_pos 53; omega)).mpr small
  unfold Kg05.nearRoot
  dsimp only
  rw [← hr, if_neg n53, sh]
  obtain ⟨e', k', hm, hs, hk', _⟩ := parts m
  have nt : ((2 * (r / 2 ^ (Nat.log2 r - 52)) + 1) * 2 ^ (Nat.log2 r - 52)) ^ 2 ≠ 4 * (Kg05.scale m * Kg05.ONE) := by
    have := no_tie (e := Nat.log2 r - 52) (j := e' + 1074) k0 hk'
    rw [hs, Nat.mul_assoc k']
    unfold Kg05.ONE
    rw [← Nat.pow_add]
    exact this
  have i : ∀ z, z ≤ r / 2 ^ (Nat.log2 r - 52) + 1 → min Kg05.INFINITY ((Nat.log2 r - 52) * 2 ^ 52 + z) = (Nat.log2 r - 52) * 2 ^ 52 + z := by
    intro z hz
    apply Nat.min_eq_right
    unfold Kg05.INFINITY
    omega
  generalize ((2 * (r / 2 ^ (Nat.log2 r - 52)) + 1) * 2 ^ (Nat.log2 r - 52)) ^ 2 = mid at *
  generalize 4 * (Kg05.scale m * Kg05.ONE) = N at *
  by_cases c : N < mid
  · rw [if_pos c, if_neg (by omega), i _ (by omega)]
  · rw [if_neg c, if_pos (show mid < N by omega), if_pos (show mid < N by omega), i _ (by omega)]
/-! Newton's way to a whole root. -/
theorem four_mul_le (u v : Nat) : 4 * (u * v) ≤ (u + v) * (u + v) := by
  rcases Nat.le_total u v with h | h
  · obtain ⟨w, rfl⟩ := Nat.le.dest h
    have e : (u + (u + w)) * (u + (u + w)) = 4 * (u * (u + w)) + w * w := by
      simp only [Nat.add_mul, Nat.mul_add, Nat.mul_comm w u]
      omega
    omega
  · obtain ⟨w, rfl⟩ := Nat.le.dest h
    have e : (v + w + v) * (v + w + v) = 4 * ((v + w) * v) + w * w := by
      simp only [Nat.add_mul, Nat.mul_add, Nat.mul_comm w v]
      omega
    omega
theorem newton_ge {n r : Nat} (h : 0 < r) : n < ((r + n / r) / 2 + 1) * ((r + n / r) / 2 + 1) := by
  have a : n < r * (n / r + 1) := by
    have := Nat.div_add_mod n r
    have := Nat.mod_lt n h
    rw [Nat.mul_add]
    omega
  have b := four_mul_le r (n / r + 1)
  have c : (r + (n / r + 1)) * (r + (n / r + 1)) ≤ (2 * ((r + n / r) / 2 + 1)) * (2 * ((r + n / r) / 2 + 1)) := Nat.mul_self_le_mul_self (by omega)
  have d : (2 * ((r + n / r) / 2 + 1)) * (2 * ((r + n / r) / 2 + 1)) = 4 * (((r + n / r) / 2 + 1) * ((r + n / r) / 2 + 1)) := by
    rw [Nat.mul_mul_mul_comm]
  omega
theorem newton_end {n r : Nat} (h : 0 < r) (h2 : r ≤ (r + n / r) / 2) : r * r ≤ n := by
  have : r ≤ n / r := by omega
  exact (Nat.le_div_iff_mul_le h).mp this
end My
end
section
open PySem PySem.W
namespace My
/-- What holds between two calls, but for the bounds. -/
structure All (ns : List Int) (p : Int) (told : List Int) (c m q l g : Int) : Prop where
  inv : Inv ns p told c m q l g
  bnd : Bnd (1474 + 2 * c.toNat) m.toNat
  zero : c = 0 → m = 0
theorem pre_run {ns : List Int} (h : Challenge.rw_readingstold_s01_answers.pre [ofPy (PyData.list (List.map PyData.int ns))] = true) : ns.length ≤ 16000 ∧ PyKg05.answers_asked ns = true := by
  obtain ⟨osDec, osLeast, osMost, osItems⟩ := os_dec_ints (os_pre_isSome h)
  exact ⟨osMost, os_pre_asked h osDec⟩
theorem All.start {ns : List Int} (h : Challenge.rw_readingstold_s01_answers.pre [ofPy (PyData.list (List.map PyData.int ns))] = true) :
    (0 : Int) ≤ 0 ∧ (0 : Int) ≤ (ns.length : Int) ∧ (ns.length : Int) ≤ 16000 ∧ (([] : List Int).length : Int) ≤ 3 * 0 ∧ ((0 : Int) ≤ 0 ∧ (0 : Int) ≤ 100) ∧ ((0 : Int) ≤ 0 ∧ (0 : Int) < 18446744073709551616) ∧ ((0 : Int) ≤ 0 ∧ (0 : Int) < 9223372036854775808) ∧ ((0 : Int) ≤ 0 ∧ (0 : Int) < 18446744073709551616) ∧ ((0 : Int) ≤ 0 ∧ (0 : Int) < 18446744073709551616) ∧ All ns 0 [] 0 0 0 0 0 := by
  obtain ⟨h1, h2⟩ := pre_run h
  obtain ⟨⟨n, hn, w⟩, _, _⟩ := asked_run h2
  refine ⟨by omega, by omega, by omega, by decide, by decide, by decide, by decide, by decide, by decide, Inv.start w hn, ?_, fun _ => rfl⟩
  exact Nat.zero_le _
end My
end
section
open PySem PySem.W PyProof.Rows
namespace My
section
variable {ns told : List Int} {p c m q l g : Int}
theorem All.kind (A : All ns p told c m q l g) (h0 : 0 ≤ p) (h1 : p < (ns.length : Int)) : 0 ≤ ns.getD p.toNat 0 ∧ ns.getD p.toNat 0 ≤ 9 := A.inv.kind h0 h1
/-- the place of a call's own number -/
structure At (ns : List Int) (p k : Int) : Prop where
  eq : ns.getD p.toNat 0 = k
/-- the number behind it -/
structure Arg (ns : List Int) (p x : Int) : Prop where
  eq : ns.getD (p.toNat + 1) 0 = x
theorem All.arg (A : All ns p told c m q l g) (h0 : 0 ≤ p) (h1 : p < (ns.length : Int)) {k : Int} (e : ns.getD p.toNat 0 = k) (hw : wide k = true) :
    ∃ x, Arg ns p x ∧ p + 1 < (ns.length : Int) ∧ 0 ≤ x ∧ x < 18446744073709551616 := by
  have := A.inv.arg h0 h1 (by rw [e]; exact hw)
  exact ⟨_, ⟨rfl⟩, this⟩
variable {prog : Program} {w : World} {A : Around} {E : Value → Shared → Prop} {s : Shared} {t : Tok} {Q : Value → Shared → Prop} {v sl : PySem.Expr} {a : Addr}
theorem step_widths (H : All ns p told c m q l g) (h0 : 0 ≤ p) (h1 : p < (ns.length : Int))
    (a0 : At ns p 0 → wpAny (model prog w) A (subscriptTail v sl (.ref a) (.int 0 t)) Q E s)
    (a1 : ∀ x, At ns p 1 → Arg ns p x → p + 1 < (ns.length : Int) → 0 ≤ x → x < 18446744073709551616 → wpAny (model prog w) A (subscriptTail v sl (.ref a) (.int 1 t)) Q E s)
    (a2 : At ns p 2 → wpAny (model prog w) A (subscriptTail v sl (.ref a) (.int 2 t)) Q E s)
    (a3 : At ns p 3 → wpAny (model prog w) A (subscriptTail v sl (.ref a) (.int 3 t)) Q E s)
    (a4 : At ns p 4 → wpAny (model prog w) A (subscriptTail v sl (.ref a) (.int 4 t)) Q E s)
    (a5 : At ns p 5 → wpAny (model prog w) A (subscriptTail v sl (.ref a) (.int 5 t)) Q E s)
    (a6 : At ns p 6 → wpAny (model prog w) A (subscriptTail v sl (.ref a) (.int 6 t)) Q E s)
    (a7 : At ns p 7 → wpAny (model prog w) A (subscriptTail v sl (.ref a) (.int 7 t)) Q E s)
    (a8 : ∀ x, At ns p 8 → Arg ns p x → p + 1 < (ns.length : Int) → 0 ≤ x → x < 18446744073709551616 → wpAny (model prog w) A (subscriptTail v sl (.ref a) (.int 8 t)) Q E s)
    (a9 : ∀ x, At ns p 9 → Arg ns p x → p + 1 < (ns.length : Int) → 0 ≤ x → x < 18446744073709551616 → wpAny (model prog w) A (subscriptTail v sl (.ref a) (.int 9 t)) Q E s) :
    wpAny (model prog w) A (subscriptTail v sl (.ref a) (.int (ns.getD p.toNat 0) t)) Q E s := by
  obtain ⟨k0, k9⟩ := H.kind h0 h1
  have ar := fun {k : Int} (e : ns.getD p.toNat 0 = k) (hw : wide k = true) => H.arg h0 h1 e hw
  generalize hk : ns.getD p.toNat 0 = k at k0 k9 ar ⊢
  have : k = 0 ∨ k = 1 ∨ k = 2 ∨ k = 3 ∨ k = 4 ∨ k = 5 ∨ k = 6 ∨ k = 7 ∨ k = 8 ∨ k = 9 := by omega
  rcases this with h | h | h | h | h | h | h | h | h | h <;> subst h
  · exact a0 ⟨hk⟩
  · obtain ⟨x, hx, y1, y2, y3⟩ := ar rfl (by decide)
    exact a1 x ⟨hk⟩ hx y1 y2 y3
  · exact a2 ⟨hk⟩
  · exact a3 ⟨hk⟩
  · exact a4 ⟨hk⟩
  · exact a5 ⟨hk⟩
  · exact a6 ⟨hk⟩
  · exact a7 ⟨hk⟩
  · obtain ⟨x, hx, y1, y2, y3⟩ := ar rfl (by decide)
    exact a8 x ⟨hk⟩ hx y1 y2 y3
  · obtain ⟨x, hx, y1, y2, y3⟩ := ar rfl (by decide)
    exact a9 x ⟨hk⟩ hx y1 y2 y3
end
end My
end
section
open PySem PySem.W PyProof.Rows
namespace My
theorem take_one {ns : List Int} {p k : Int} (a : At ns p k) (h0 : 0 ≤ p) (h1 : p < (ns.length : Int)) : List.take (min (p + 1).toNat ns.length - p.toNat) (List.drop p.toNat ns) = [k] := by
  have e := a.eq
  rw [show min (p + 1).toNat ns.length - p.toNat = 1 by omega, drop_cons (by omega), e]
  rfl
theorem take_two {ns : List Int} {p k x : Int} (a : At ns p k) (b : Arg ns p x) (h0 : 0 ≤ p) (h1 : p + 1 < (ns.length : Int)) : List.take (min (p + 2).toNat ns.length - p.toNat) (List.drop p.toNat ns) = [k, x] := by
  have e := a.eq
  have f := b.eq
  rw [show min (p + 2).toNat ns.length - p.toNat = 2 by omega, drop_cons (by omega), drop_cons (by omega), e, f]
  rfl
theorem ints_one {vs : List Value} {k : Int} (h : IntsAre vs [k]) : ∃ t, vs = [.int k t] := by
  obtain ⟨t, vs', e, h'⟩ := h.cons_inv
  exact ⟨t, by rw [e, h'.nil_inv]⟩
theorem ints_two {vs : List Value} {k x : Int} (h : IntsAre vs [k, x]) : ∃ t u, vs = [.int k t, .int x u] := by
  obtain ⟨t, vs', e, h'⟩ := h.cons_inv
  obtain ⟨u, e'⟩ := ints_one h'
  exact ⟨t, u, by rw [e, e']⟩
section
variable {prog : Program} {w : World} {A : Around} {E : Value → Shared → Prop} {s : Shared} {t : Tok} {Q : Value → Shared → Prop} {value slice : PySem.Expr} {D b : Addr}
variable {h₀ : Heap} {L : Addr} {m : Str → Option Value} {news news' : List (Addr × Obj)} {ns : List Int} {p k x : Int} {ws : List Value} {n n2 : Nat} {u : Tok} {its : Array Value} {v v' : Value}
theorem item_at {i : Int} (N : News h₀ L s.heap news) (hm : (D, W.listOf ws.toArray n) ∈ news) (h0 : 0 ≤ i) (h1 : i < 2 ^ 63) (hx : ws[i.toNat]? = some v) (h : Q v s)
    (hs : subscripted slice false (.ref D) (.int i u) = operate [.ref D, .int i u] (getItem (.ref D) (.int i u)) := by with_unfolding_all rfl) : wpAny (model prog w) A (subscriptTail value slice (.ref D) (.int i u)) Q E s := by
  have hl : s.heap.IsList D ws.toArray := ⟨_, (N _ hm).1, rfl, _, rfl⟩
  exact tail_any hl.typeIs slot_list_getitem.lookup (wpAny_getItem_list hl h0 h1 (by simpa using hx) h) hs
/-- the call's own number, read off its slice -/
theorem step_one0 (N : News h₀ L s.heap news) (hm : (D, W.listOf ws.toArray n) ∈ news) (hI : IntsAre ws (List.take (min (p + 1).toNat ns.length - p.toNat) (List.drop p.toNat ns))) (a : At ns p k) (h0 : 0 ≤ p) (h1 : p < (ns.length : Int))
    (h : ∀ t, Q (.int k t) s) (hs : subscripted slice false (.ref D) (.int 0 u) = operate [.ref D, .int 0 u] (getItem (.ref D) (.int 0 u)) := by with_unfolding_all rfl) : wpAny (model prog w) A (subscriptTail value slice (.ref D) (.int 0 u)) Q E s := by
  rw [take_one a h0 h1] at hI
  obtain ⟨t, e⟩ := ints_one hI
  subst e
  exact item_at N hm (by decide) (by decide) rfl (h t) hs
theorem step_two0 (N : News h₀ L s.heap news) (hm : (D, W.listOf ws.toArray n) ∈ news) (hI : IntsAre ws (List.take (min (p + 2).toNat ns.length - p.toNat) (List.drop p.toNat ns))) (a : At ns p k) (c : Arg ns p x) (h0 : 0 ≤ p) (h1 : p + 1 < (ns.length : Int))
    (h : ∀ t, Q (.int k t) s) (hs : subscripted slice false (.ref D) (.int 0 u) = operate [.ref D, .int 0 u] (getItem (.ref D) (.int 0 u)) := by with_unfolding_all rfl) : wpAny (model prog w) A (subscriptTail value slice (.ref D) (.int 0 u)) Q E s := by
  rw [take_two a c h0 h1] at hI
  obtain ⟨t, t', e⟩ := ints_two hI
  subst e
  exact item_at N hm (by decide) (by decide) rfl (h t) hs
theorem step_two1 (N : News h₀ L s.heap news) (hm : (D, W.listOf ws.toArray n) ∈ news) (hI : IntsAre ws (List.take (min (p + 2).toNat ns.length - p.toNat) (List.drop p.toNat ns))) (a : At ns p k) (c : Arg ns p x) (h0 : 0 ≤ p) (h1 : p + 1 < (ns.length : Int))
    (h : ∀ t, Q (.int x t) s) (hs : subscripted slice false (.ref D) (.int 1 u) = operate [.ref D, .int 1 u] (getItem (.ref D) (.int 1 u)) := by with_unfolding_all rfl) : wpAny (model prog w) A (subscriptTail value slice (.ref D) (.int 1 u)) Q E s := by
  rw [take_two a c h0 h1] at hI
  obtain ⟨t, t', e⟩ := ints_two hI
  subst e
  exact item_at N hm (by decide) (by decide) rfl (h t') hs
theorem not_long {a b : Nat} (h : a + b ≤ 16777216) (c : Bool) : ¬ (!c && Builtin.List.listTooLong (a + b)) = true := by
  have : Builtin.List.listTooLong (a + b) = false := by
    unfold Builtin.List.listTooLong
    have e : sizeLine = 16777216 := by decide
    rw [e]
    exact decide_eq_false (by omega)
  rw [this]
  cases c <;> decide
theorem step_ext1 (F : Fr h₀ L s.heap m) (N : News h₀ L s.heap news) (hb : (b, W.listOf #[v] n2) ∈ news) (U : Upd D (W.listOf its n) (W.listOf (its.push v) (n + 1)) news news') (hz : its.size ≤ 1000000)
    (h : ∀ h', Fr h₀ L h' m → News h₀ L h' news' → Q .none { s with heap := h' }) : wpAny (model prog w) A (call (.builtin "list.extend") [.ref D, .ref b]) Q E s := by
  have e : (its.toList ++ [v]).toArray = its.push v := by apply Array.toList_inj.mp; simp
  rw [← e] at U
  have z : sizeLine = 16777216 := by decide
  refine kl_extend F N hb rfl (by simp) U (not_long (by simp; omega) _) (by simp [z]; omega) (by simp [z]; omega) h
theorem step_ext2 (F : Fr h₀ L s.heap m) (N : News h₀ L s.heap news) (hb : (b, W.listOf #[v, v'] n2) ∈ news) (U : Upd D (W.listOf its n) (W.listOf ((its.push v).push v') (n + 1)) news news') (hz : its.size ≤ 1000000)
    (h : ∀ h', Fr h₀ L h' m → News h₀ L h' news' → Q .none { s with heap := h' }) : wpAny (model prog w) A (call (.builtin "list.extend") [.ref D, .ref b]) Q E s := by
  have e : (its.toList ++ [v, v']).toArray = (its.push v).push v' := by apply Array.toList_inj.mp; simp
  rw [← e] at U
  have z : sizeLine = 16777216 := by decide
  refine kl_extend F N hb rfl (by simp) U (not_long (by simp; omega) _) (by simp [z]; omega) (by simp [z]; omega) h
end
end My
end
section
open PySem PySem.W PyProof.Rows
namespace My
theorem two_app (l : List Int) (a b : Int) : l ++ [a] ++ [b] = l ++ [a, b] := by simp
theorem three_app (l : List Int) (a b c : Int) : l ++ [a] ++ [b] ++ [c] = l ++ [a, b, c] := by simp
section
variable {ns told : List Int} {p c m q l g c' m' q' l' g' x v : Int}
/-- a call of one number that changes nothing -/
theorem t_one {k : Int} (A : All ns p told c m q l g) (a : At ns p k) (hw : wide k = false) (hs : stp (st c m q l g) k 0 = (st c m q l g, [v]))
    (h0 : 0 ≤ p) (h1 : p < (ns.length : Int)) (h2 : (ns.length : Int) ≤ 16000) (h3 : (told.length : Int) ≤ 3 * p) (h4 : 0 ≤ c ∧ c ≤ 100) (h5 : 0 ≤ m ∧ m < 18446744073709551616) (h6 : 0 ≤ q ∧ q < 9223372036854775808) (h7 : 0 ≤ l ∧ l < 18446744073709551616) (h8 : 0 ≤ g ∧ g < 18446744073709551616) :
    0 ≤ p + 1 ∧ p + 1 ≤ (ns.length : Int) ∧ (ns.length : Int) ≤ 16000 ∧ ((told ++ [1] ++ [v]).length : Int) ≤ 3 * (p + 1) ∧ (0 ≤ c ∧ c ≤ 100) ∧ (0 ≤ m ∧ m < 18446744073709551616) ∧ (0 ≤ q ∧ q < 9223372036854775808) ∧ (0 ≤ l ∧ l < 18446744073709551616) ∧ (0 ≤ g ∧ g < 18446744073709551616) ∧ All ns (p + 1) (told ++ [1] ++ [v]) c m q l g := by
  have I := A.inv.one h0 h1 a.eq hw hs (.inl (by omega))
  refine ⟨by omega, by omega, h2, by rw [two_app]; simp; omega, h4, h5, h6, h7, h8, ?_, A.bnd, A.zero⟩
  rw [two_app]
  exact I
theorem t_begin (A : All ns p told c m q l g) (a : At ns p 0) (h0 : 0 ≤ p) (h1 : p < (ns.length : Int)) (h2 : (ns.length : Int) ≤ 16000) (h3 : (told.length : Int) ≤ 3 * p) :
    0 ≤ p + 1 ∧ p + 1 ≤ (ns.length : Int) ∧ (ns.length : Int) ≤ 16000 ∧ ((told ++ [1] ++ [0]).length : Int) ≤ 3 * (p + 1) ∧ ((0 : Int) ≤ 0 ∧ (0 : Int) ≤ 100) ∧ ((0 : Int) ≤ 0 ∧ (0 : Int) < 18446744073709551616) ∧ ((0 : Int) ≤ 0 ∧ (0 : Int) < 9223372036854775808) ∧ ((0 : Int) ≤ 0 ∧ (0 : Int) < 18446744073709551616) ∧ ((0 : Int) ≤ 0 ∧ (0 : Int) < 18446744073709551616) ∧ All ns (p + 1) (told ++ [1] ++ [0]) 0 0 0 0 0 := by
  have I := A.inv.one h0 h1 a.eq (by decide) s_begin (.inr (by omega))
  refine ⟨by omega, by omega, h2, by rw [two_app]; simp; omega, by decide, by decide, by decide, by decide, by decide, ?_, Nat.zero_le _, fun _ => rfl⟩
  rw [two_app]
  exact I
/-- a call of two numbers that changes nothing -/
theorem t_two {k : Int} (A : All ns p told c m q l g) (a : At ns p k) (b : Arg ns p x) (hw : wide k = true) (hs : stp (st c m q l g) k x = (st c m q l g, [v]))
    (h0 : 0 ≤ p) (h1 : p + 1 < (ns.length : Int)) (h2 : (ns.length : Int) ≤ 16000) (h3 : (told.length : Int) ≤ 3 * p) (h4 : 0 ≤ c ∧ c ≤ 100) (h5 : 0 ≤ m ∧ m < 18446744073709551616) (h6 : 0 ≤ q ∧ q < 9223372036854775808) (h7 : 0 ≤ l ∧ l < 18446744073709551616) (h8 : 0 ≤ g ∧ g < 18446744073709551616) :
    0 ≤ p + 2 ∧ p + 2 ≤ (ns.length : Int) ∧ (ns.length : Int) ≤ 16000 ∧ ((told ++ [1] ++ [v]).length : Int) ≤ 3 * (p + 2) ∧ (0 ≤ c ∧ c ≤ 100) ∧ (0 ≤ m ∧ m < 18446744073709551616) ∧ (0 ≤ q ∧ q < 9223372036854775808) ∧ (0 ≤ l ∧ l < 18446744073709551616) ∧ (0 ≤ g ∧ g < 18446744073709551616) ∧ All ns (p + 2) (told ++ [1] ++ [v]) c m q l g := by
  have I := A.inv.two h0 (by omega) a.eq hw b.eq hs (.inl (by omega))
  refine ⟨by omega, by omega, h2, by rw [two_app]; simp; omega, h4, h5, h6, h7, h8, ?_, A.bnd, A.zero⟩
  rw [two_app]
  exact I
theorem t_three {k : Int} (A : All ns p told c m q l g) (a : At ns p k) (b : Arg ns p x) (hw : wide k = true) {v' : Int} (hs : stp (st c m q l g) k x = (st c m q l g, [v, v']))
    (h0 : 0 ≤ p) (h1 : p + 1 < (ns.length : Int)) (h2 : (ns.length : Int) ≤ 16000) (h3 : (told.length : Int) ≤ 3 * p) (h4 : 0 ≤ c ∧ c ≤ 100) (h5 : 0 ≤ m ∧ m < 18446744073709551616) (h6 : 0 ≤ q ∧ q < 9223372036854775808) (h7 : 0 ≤ l ∧ l < 18446744073709551616) (h8 : 0 ≤ g ∧ g < 18446744073709551616) :
    0 ≤ p + 2 ∧ p + 2 ≤ (ns.length : Int) ∧ (ns.length : Int) ≤ 16000 ∧ ((told ++ [2] ++ [v] ++ [v']).length : Int) ≤ 3 * (p + 2) ∧ (0 ≤ c ∧ c ≤ 100) ∧ (0 ≤ m ∧ m < 18446744073709551616) ∧ (0 ≤ q ∧ q < 9223372036854775808) ∧ (0 ≤ l ∧ l < 18446744073709551616) ∧ (0 ≤ g ∧ g < 18446744073709551616) ∧ All ns (p + 2) (told ++ [2] ++ [v] ++ [v']) c m q l g := by
  have I := A.inv.two h0 (by omega) a.eq hw b.eq hs (.inl (by omega))
  refine ⟨by omega, by omega, h2, by rw [three_app]; simp; omega, h4, h5, h6, h7, h8, ?_, A.bnd, A.zero⟩
  rw [three_app]
  exact I
theorem s_var0 (h : 0 ≤ c) (h2 : c < 2) : stp (st c m q l g) 4 0 = (st c m q l g, [0]) := by
  have := s_var (m := m) (q := q) (l := l) (g := g) h
  unfold cVar at this
  rw [if_pos h2] at this
  exact this
theorem s_var1 (h : 0 ≤ c) (h2 : ¬ c < 2) : stp (st c m q l g) 4 0 = (st c m q l g, [cCount q (c - 1)]) := by
  have := s_var (m := m) (q := q) (l := l) (g := g) h
  unfold cVar at this
  rw [if_neg h2] at this
  exact this
theorem s_dev0 (h : 0 ≤ c) (h2 : c < 2) : stp (st c m q l g) 5 0 = (st c m q l g, [cRoot 0]) := by
  have := s_dev (m := m) (q := q) (l := l) (g := g) h
  unfold cVar at this
  rw [if_pos h2] at this
  exact this
theorem s_dev1 (h : 0 ≤ c) (h2 : ¬ c < 2) : stp (st c m q l g) 5 0 = (st c m q l g, [cRoot (cCount q (c - 1))]) := by
  have := s_dev (m := m) (q := q) (l := l) (g := g) h
  unfold cVar at this
  rw [if_neg h2] at this
  exact this
/-- the rank of a double: its bits by its sign -/
def cRank (x : Int) : Int := key x.toNat
theorem rank_neg {x : Int} (h : Kg05.negative x.toNat = true) : -cMag x = cRank x := by
  unfold cMag cRank key; rw [if_pos h]
theorem rank_pos {x : Int} (h : ¬ Kg05.negative x.toNat = true) : cMag x = cRank x := by
  unfold cMag cRank key; rw [if_neg h]
theorem rank_lt {x y : Int} : cRank x < cRank y ↔ cUnits x < cUnits y := (val_lt_iff _ _).symm
theorem rank_eq {x y : Int} : cRank x = cRank y ↔ cUnits x = cUnits y := (val_eq_iff _ _).symm
theorem cRank_in (x : Int) : -9223372036854775808 < cRank x ∧ cRank x < 9223372036854775808 := by
  have h := cMag_in x
  by_cases n : Kg05.negative x.toNat = true
  · rw [← rank_neg n]; omega
  · rw [← rank_pos n]; omega
theorem cRank_abs (x : Int) : (cRank x = cMag x ∨ cRank x = -cMag x) := by
  by_cases n : Kg05.negative x.toNat = true
  · rw [← rank_neg n]; exact .inr rfl
  · rw [← rank_pos n]; exact .inl rfl
/-! side -/
theorem All.fin (A : All ns p told c m q l g) (h : 0 ≤ c ∧ c ≤ 100) : cMag m < 9218868437227405312 := by
  have := A.bnd.finite (by omega)
  unfold cMag
  omega
theorem s_side_nan (h : cMag x > 9218868437227405312) : stp (st c m q l g) 8 x = (st c m q l g, [2]) := by
  rw [s_side, side_nan h]
theorem s_side_eq (A : All ns p told c m q l g) (h4 : 0 ≤ c ∧ c ≤ 100) (h : ¬ cMag x > 9218868437227405312) (e : cRank x = cRank m) : stp (st c m q l g) 8 x = (st c m q l g, [0]) := by
  rw [s_side, side_num (by omega) (A.fin h4), if_neg (by rw [rank_eq] at e; omega), if_pos (rank_eq.mp e)]
theorem s_side_lt (A : All ns p told c m q l g) (h4 : 0 ≤ c ∧ c ≤ 100) (h : ¬ cMag x > 9218868437227405312) (e : cRank x < cRank m) : stp (st c m q l g) 8 x = (st c m q l g, [-1]) := by
  rw [s_side, side_num (by omega) (A.fin h4), if_pos (rank_lt.mp e)]
theorem s_side_gt (A : All ns p told c m q l g) (h4 : 0 ≤ c ∧ c ≤ 100) (h : ¬ cMag x > 9218868437227405312) (e : ¬ cRank x = cRank m) (e2 : ¬ cRank x < cRank m) : stp (st c m q l g) 8 x = (st c m q l g, [1]) := by
  rw [s_side, side_num (by omega) (A.fin h4), if_neg (by rw [rank_lt] at e2; omega), if_neg (by rw [rank_eq] at e; omega)]
/-! add -/
theorem t_add (A : All ns p told c m q l g) (a : At ns p 1) (b : Arg ns p x) (h : ¬ cMag x > 6408622269748215808)
    (hl : l' = if c = 0 ∨ cRank x < cRank l then x else l) (hg : g' = if c = 0 ∨ cRank g < cRank x then x else g)
    (h0 : 0 ≤ p) (h1 : p + 1 < (ns.length : Int)) (h2 : (ns.length : Int) ≤ 16000) (h3 : (told.length : Int) ≤ 3 * p) (h4 : 0 ≤ c ∧ c ≤ 100) (h5 : 0 ≤ m ∧ m < 18446744073709551616) (h6 : 0 ≤ q ∧ q < 9223372036854775808) (h7 : 0 ≤ l ∧ l < 18446744073709551616) (h8 : 0 ≤ g ∧ g < 18446744073709551616) (h9 : 0 ≤ x ∧ x < 18446744073709551616) :
    0 ≤ p + 2 ∧ p + 2 ≤ (ns.length : Int) ∧ (ns.length : Int) ≤ 16000 ∧ ((told ++ [1] ++ [0]).length : Int) ≤ 3 * (p + 2) ∧ (0 ≤ c + 1 ∧ c + 1 ≤ 100) ∧
    (0 ≤ cPlus m (cCount (cMinus x m) (c + 1)) ∧ cPlus m (cCount (cMinus x m) (c + 1)) < 18446744073709551616) ∧
    (0 ≤ cPlus q (cTimes (cMinus x m) (cMinus x (cPlus m (cCount (cMinus x m) (c + 1))))) ∧ cPlus q (cTimes (cMinus x m) (cMinus x (cPlus m (cCount (cMinus x m) (c + 1))))) < 9223372036854775808) ∧ (0 ≤ l' ∧ l' < 18446744073709551616) ∧ (0 ≤ g' ∧ g' < 18446744073709551616) ∧
    All ns (p + 2) (told ++ [1] ++ [0]) (c + 1) (cPlus m (cCount (cMinus x m) (c + 1))) (cPlus q (cTimes (cMinus x m) (cMinus x (cPlus m (cCount (cMinus x m) (c + 1)))))) l' g' := by
  have few := A.inv.few h0 (by omega)
  have hs := s_add (c := c) (m := m) (q := q) (l := l) (g := g) (x := x) (l' := l') (g' := g') (by omega) h4.1 (by omega)
    (by rw [hl]; simp only [rank_lt]; split <;> rfl) (by rw [hg]; simp only [rank_lt]; split <;> rfl)
  have I := A.inv.two h0 (by omega) a.eq (by decide) b.eq hs (.inl (by omega))
  have e1 : (c + 1).toNat = c.toNat + 1 := by omega
  have mx : Kg05.mag x.toNat ≤ 6408622269748215808 := by unfold cMag at h; omega
  have nq : Kg05.negative q.toNat = false := by
    cases hq : Kg05.negative q.toNat with
    | false => rfl
    | true => rw [neg_iff] at hq; omega
  have sq := squares_up (x := x.toNat) (m := m.toNat) (n := c.toNat + 1) (q := q.toNat) (by omega) (by omega) (by omega) (by
    by_cases z : c = 0
    · right
      rw [A.zero z]
      rfl
    · left; omega) nq
  have b1 : cPlus q (cTimes (cMinus x m) (cMinus x (cPlus m (cCount (cMinus x m) (c + 1))))) < 9223372036854775808 := by
    have r : cPlus q (cTimes (cMinus x m) (cMinus x (cPlus m (cCount (cMinus x m) (c + 1))))) = ((Kg05.sum q.toNat (Kg05.product (Kg05.minus x.toNat m.toNat) (Kg05.minus x.toNat (Kg05.sum m.toNat (Kg05.quotient (Kg05.minus x.toNat m.toNat) (Kg05.ofNat (c.toNat + 1)))))) : Nat) : Int) := by
      unfold cPlus cTimes cMinus cCount
      simp only [Int.toNat_natCast, e1]
    rw [r]
    have : ¬ 9223372036854775808 ≤ Kg05.sum q.toNat (Kg05.product (Kg05.minus x.toNat m.toNat) (Kg05.minus x.toNat (Kg05.sum m.toNat (Kg05.quotient (Kg05.minus x.toNat m.toNat) (Kg05.ofNat (c.toNat + 1)))))) := fun e => by
      rw [(neg_iff _).mpr e] at sq; cases sq
    omega
  have bm := Bnd.mean (x := x.toNat) (m := m.toNat) (n := c.toNat) mx A.bnd (by omega)
  have i1 := cPlus_in m (cCount (cMinus x m) (c + 1))
  have i2 := cPlus_in q (cTimes (cMinus x m) (cMinus x (cPlus m (cCount (cMinus x m) (c + 1)))))
  refine ⟨by omega, by omega, h2, by rw [two_app]; simp; omega, by omega, i1, ⟨i2.1, b1⟩, by rw [hl]; split <;> omega, by rw [hg]; split <;> omega, ?_, ?_, fun z => by omega⟩
  · rw [two_app]
    exact I
  · have r : (cPlus m (cCount (cMinus x m) (c + 1))).toNat = Kg05.sum m.toNat (Kg05.quotient (Kg05.minus x.toNat m.toNat) (Kg05.ofNat (c.toNat + 1))) := by
      unfold cPlus cMinus cCount
      simp only [Int.toNat_natCast, e1]
    rw [r, e1]
    exact bm
end
end My
end
section
open PySem PySem.W PyProof.Rows
namespace My
/-- A call by what it hands back, with room for so many frames. -/
def Claim (d : Nat) (prog : Program) (w : World) (K : Frag) (p : Program) (loose : List Str) (mean : ExcName → Option Value) (mg mb : Str → Option Value) (f : Addr) (news : List (Addr × Obj)) (pre : Prop) (vs : List Value) (R : Tok → Value) : Prop :=
  ∀ (dp un : Nat) (gd : Option (List Code)) (cn : Str) (cs : Scope) (a : Addr) (ccd : Value) (cl : List (Str × Addr)) (outer : List Env) (A0 : Around) (base h0 : Heap) (L : Addr) (m : Str → Option Value) (s : Shared) (Q E : Value → Shared → Prop),
    Below A0 base outer h0 → Fr h0 L s.heap m → K.In h0 → News h0 L s.heap news → Top p loose mean mg mb h0 → cs.kind = .function → pre → dp + d < recursionLimit → un + 8 * d < cLine →
    (∀ (t : Tok) (h' : Heap) (tk' : Nat), Fr h0 L h' m → News h0 L h' news → Q (R t) { s with heap := h', toks := tk' }) →
    wpAny (model prog w) (ktrTop dp un gd cn cs L a ccd cl outer) (call (.ref f) vs) Q E s
/-- A def of one number, and of two, by a function: whatever has been made before. -/
def Ctr1 (d : Nat) (prog : Program) (K : Params → Frag) (p : Program) (loose : List Str) (f : Addr) (pre : Int → Prop) (r : Int → Int) : Prop :=
  ∀ (w : World) (mean : ExcName → Option Value) (mg mb : Str → Option Value) (news : List (Addr × Obj)) (x : Int) (t : Tok),
    Claim d prog w (K w.params) p loose mean mg mb f news (pre x) [.int x t] (fun t => .int (r x) t)
def Ctr2 (d : Nat) (prog : Program) (K : Params → Frag) (p : Program) (loose : List Str) (f : Addr) (pre : Int → Int → Prop) (r : Int → Int → Int) : Prop :=
  ∀ (w : World) (mean : ExcName → Option Value) (mg mb : Str → Option Value) (news : List (Addr × Obj)) (x : Int) (t : Tok) (y : Int) (u : Tok),
    Claim d prog w (K w.params) p loose mean mg mb f news (pre x y) [.int x t, .int y u] (fun t => .int (r x y) t)
section
variable {d : Nat} {prog : Program} {K : Params → Frag} {p : Program} {loose : List Str} {f : Addr} {w : World} {mean : ExcName → Option Value} {mg mb : Str → Option Value}
variable {dp un : Nat} {gd : Option (List Code)} {cn : Str} {cs : Scope} {a : Addr} {ccd : Value} {cl : List (Str × Addr)} {outer : List Env} {A0 : Around} {base h0 : Heap} {L : Addr} {m : Str → Option Value} {s : Shared} {Q E : Value → Shared → Prop} {news : List (Addr × Obj)} {x y : Int} {t u : Tok}
theorem Ctr1.step {pre : Int → Prop} {r : Int → Int} {post : Int → Prop} (fact : ∀ x, post x) (c : Ctr1 d prog K p loose f pre r) (B : Below A0 base outer h0) (F : Fr h0 L s.heap m) (X : (K w.params).In h0) (N : News h0 L s.heap news) (T : Top p loose mean mg mb h0) (hk : cs.kind = .function) (hp : pre x) (hd : dp + d < recursionLimit) (hu : un + 8 * d < cLine)
    (h : post x → ∀ (t : Tok) (h' : Heap) (tk' : Nat), Fr h0 L h' m → News h0 L h' news → Q (.int (r x) t) { s with heap := h', toks := tk' }) : wpAny (model prog w) (ktrTop dp un gd cn cs L a ccd cl outer) (call (.ref f) [.int x t]) Q E s :=
  c w mean mg mb news x t _ _ _ _ _ _ _ _ _ _ _ _ _ _ _ _ _ B F X N T hk hp hd hu (h (fact x))
theorem Ctr2.step {pre : Int → Int → Prop} {r : Int → Int → Int} {post : Int → Int → Prop} (fact : ∀ x y, post x y) (c : Ctr2 d prog K p loose f pre r) (B : Below A0 base outer h0) (F : Fr h0 L s.heap m) (X : (K w.params).In h0) (N : News h0 L s.heap news) (T : Top p loose mean mg mb h0) (hk : cs.kind = .function) (hp : pre x y) (hd : dp + d < recursionLimit) (hu : un + 8 * d < cLine)
    (h : post x y → ∀ (t : Tok) (h' : Heap) (tk' : Nat), Fr h0 L h' m → News h0 L h' news → Q (.int (r x y) t) { s with heap := h', toks := tk' }) : wpAny (model prog w) (ktrTop dp un gd cn cs L a ccd cl outer) (call (.ref f) [.int x t, .int y u]) Q E s :=
  c w mean mg mb news x t y u _ _ _ _ _ _ _ _ _ _ _ _ _ _ _ _ _ B F X N T hk hp hd hu (h (fact x y))
end
end My
end
section
open PySem PySem.W PyProof.Rows
namespace My
theorem sign_set {x : Int} (h0 : 0 ≤ x) (h1 : x < 18446744073709551616) (h : Builtin.bitAnd x 9223372036854775808 ≠ 0) : Kg05.negative x.toNat = true := by
  rw [b_sign h0 h1] at h
  by_cases n : Kg05.negative x.toNat = true
  · exact n
  · rw [if_neg n] at h; exact absurd rfl h
theorem sign_not {x : Int} (h0 : 0 ≤ x) (h1 : x < 18446744073709551616) (h : Builtin.bitAnd x 9223372036854775808 = 0) : ¬ Kg05.negative x.toNat = true := by
  intro n
  rw [b_sign h0 h1, if_pos n] at h
  cases h
theorem rank_out1 {x : Int} (h : Builtin.bitAnd x 9223372036854775808 ≠ 0) (h0 : 0 ≤ x) (h1 : x < 18446744073709551616) : -cMag x = cRank x := rank_neg (sign_set h0 h1 h)
theorem rank_out2 {x : Int} (h : Builtin.bitAnd x 9223372036854775808 = 0) (h0 : 0 ≤ x) (h1 : x < 18446744073709551616) : cMag x = cRank x := rank_pos (sign_not h0 h1 h)
theorem units_out1 {x : Int} (h : Builtin.bitAnd x 9223372036854775808 ≠ 0) (h0 : 0 ≤ x) (h1 : x < 18446744073709551616) : -cSize x = cUnits x := units_neg (sign_set h0 h1 h)
theorem units_out2 {x : Int} (h : Builtin.bitAnd x 9223372036854775808 = 0) (h0 : 0 ≤ x) (h1 : x < 18446744073709551616) : cSize x = cUnits x := units_pos (sign_not h0 h1 h)
/-- the exponent's field -/
def cExp (x : Int) : Int := ((Kg05.mag x.toNat / 2 ^ 52 : Nat) : Int)
theorem cExp_in (x : Int) : 0 ≤ cExp x ∧ cExp x ≤ 2047 := by
  have : Kg05.mag x.toNat < 2 ^ 63 := Nat.mod_lt _ (by decide)
  unfold cExp
  omega
theorem exp_pow (x : Int) : (cMag x).fdiv (2 ^ (52 : Int).toNat) = cExp x := by
  have e : (2 : Int) ^ (52 : Int).toNat = 4503599627370496 := by decide
  rw [e]
  exact exp_eq x
theorem size_out {x : Int} (e : cExp x = 0) (h : 0 ≤ x) : Builtin.bitAnd x 4503599627370495 = cSize x := size_small h (by rw [exp_eq]; exact e)
theorem frac_in {x : Int} (h : 0 ≤ x) : 0 ≤ Builtin.bitAnd x 4503599627370495 ∧ Builtin.bitAnd x 4503599627370495 < 4503599627370496 := by
  rw [frac_eq x h]
  omega
section
variable {prog : Program} {w : World} {A : Around} {E : Value → Shared → Prop} {s : Shared} {x : Int} {t u : Tok} {Q : Value → Shared → Prop}
theorem st_exp (k : 0 ≤ cExp x ∧ cExp x ≤ 2047 → Q (.int (cExp x) s.toks) { s with toks := s.toks + 1 }) : wpAny (model prog w) A (binaryOp .RShift (.int (cMag x) t) (.int 52 u)) Q E s :=
  PyProof.Rows.rshift_int (by decide) (by rw [exp_pow]; exact k (cExp_in x))
theorem st_size (h0 : 0 ≤ x) (h : cExp x ≠ 0) (k : Q (.int (cSize x) s.toks) { s with toks := s.toks + 1 }) : wpAny (model prog w) A (binaryOp .LShift (.int (Builtin.bitAnd x 4503599627370495 + 4503599627370496) t) (.int (cExp x - 1) u)) Q E s := by
  have i := cExp_in x
  have j := frac_in h0
  refine PyProof.Rows.lshift_int_small (by omega) (by omega) (by omega) ?_
  have e : (Builtin.bitAnd x 4503599627370495 + 4503599627370496) * 2 ^ (cExp x - 1).toNat = cSize x := by
    have z := exp_eq x
    have := size_big (x := x) h0 (by rw [z]; exact h)
    rw [z] at this
    exact this
  rw [e]
  exact k
end
end My
end
section
open PySem PySem.W PyProof.Rows
open PySem.Builtin.Int (intBits)
namespace My
section
variable {prog : Program} {w : World} {A : Around} {E : Value → Shared → Prop} {s : Shared} {n d : Int} {t u : Tok} {Q : Value → Shared → Prop}
theorem st_shlD (h : NOK n d) (k : 0 < cStep n d → Q (.int (cStep n d) s.toks) { s with toks := s.toks + 1 }) :
    wpAny (model prog w) A (binaryOp .LShift (.int d t) (.int (if (0 : Int) > (intBits (n.fdiv d) : Int) - 53 then 0 else (intBits (n.fdiv d) : Int) - 53) u)) Q E s := by
  rw [drop_eq h.hn (by have := h.hd; omega)]
  exact st_shl h k
theorem st_shl52 (h : NOK n d) (k : 0 ≤ cDrop n d → Q (.int (cDrop n d * 4503599627370496) s.toks) { s with toks := s.toks + 1 }) :
    wpAny (model prog w) A (binaryOp .LShift (.int (if (0 : Int) > (intBits (n.fdiv d) : Int) - 53 then 0 else (intBits (n.fdiv d) : Int) - 53) t) (.int 52 u)) Q E s := by
  rw [drop_eq h.hn (by have := h.hd; omega)]
  have a := h.drop
  refine PyProof.Rows.lshift_int_small (by decide) (by decide) (by omega) ?_
  have e : (2 : Int) ^ (52 : Int).toNat = 4503599627370496 := by decide
  rw [e]
  exact k a.1
theorem Fits.sub {x y : Int} {k : Nat} (hx : Fits x k) (hy : Fits y k) : Fits (x - y) (k + 1) := by
  have a := hx.lt
  have b := hy.lt
  refine ⟨?_⟩
  rw [Nat.pow_succ]
  omega
theorem st_twice (h : NOK n d) (k : Q (.int (cTwice n d) s.toks) { s with toks := s.toks + 1 }) : wpAny (model prog w) A (binaryOp .Mult (.int 2 t) (.int (n - cKept n d * cStep n d) u)) Q E s := by
  have a := h.kept.2.mul h.step.2
  have b := (h.fn.mono (show 4300 ≤ 4300 + 8601 by decide)).sub a
  exact PyProof.Rows.mul_int k (mulOk (j := 2) ⟨by decide⟩ b (by decide))
end
end My
end
section
open PySem PySem.W PyProof.Rows
namespace My
/-- 1 in units -/
def cOne : Int := ((2 ^ 1074 : Nat) : Int)
theorem one_eq : (2 : Int) ^ (1074 : Int).toNat = cOne := pow_cast 1074
theorem cOne_pos : 0 < cOne := one_pos
theorem cOne_fits : Fits cOne 1075 := by
  have := Fits.pow 1074
  rw [pow_cast] at this
  exact this
def cFlr (x : Int) : Int := (cSize x).fdiv cOne
section
variable {x y : Int}
theorem nok_plus (hx : Fits (cUnits x) 2099) (hy : Fits (cUnits y) 2099) : NOK (if cUnits x + cUnits y < 0 then -(cUnits x + cUnits y) else cUnits x + cUnits y) 1 := by
  have h := hx.add hy
  have g : Fits (if cUnits x + cUnits y < 0 then -(cUnits x + cUnits y) else cUnits x + cUnits y) 2100 := ⟨by have := h.lt; split <;> omega⟩
  exact ⟨by split <;> omega, by decide, g.mono (by decide), ⟨Nat.lt_of_lt_of_le (show (1 : Int).natAbs < 2 ^ 1 by decide) (Nat.pow_le_pow_right (by decide) (by decide))⟩⟩
theorem plus_out1 (h : cUnits x + cUnits y < 0) : Builtin.bitOr 9223372036854775808 (cNear (if cUnits x + cUnits y < 0 then -(cUnits x + cUnits y) else cUnits x + cUnits y) 1) = cPlus x y := by
  rw [if_pos h]; exact plus_neg h
theorem plus_out2 (h : 0 < cUnits x + cUnits y) : Builtin.bitOr 0 (cNear (if cUnits x + cUnits y < 0 then -(cUnits x + cUnits y) else cUnits x + cUnits y) 1) = cPlus x y := by
  rw [if_neg (by omega)]; exact plus_pos h
theorem nok_times (h : Fits (cSize x * cSize y) 4198) (h0 : 0 ≤ cSize x * cSize y) : NOK (cSize x * cSize y) cOne := ⟨h0, cOne_pos, h.mono (by decide), cOne_fits.mono (by decide)⟩
theorem times_out1 (hx : 0 ≤ x) (h1 : x < 18446744073709551616) (hy : 0 ≤ y) (h2 : y < 18446744073709551616) :
    Builtin.bitOr (Builtin.bitAnd (Builtin.bitXor x y) 9223372036854775808) (cNear (cSize x * cSize y) cOne) = cTimes x y := times_out hx h1 hy h2 rfl
theorem nok_count {n : Int} (h0 : 0 < n) (h1 : n < 9007199254740992) : NOK (cSize x) n := by
  refine ⟨(cSize_in x).1, h0, (cSize_in x).2.mono (by decide), ?_⟩
  have : Fits n 53 := ⟨by omega⟩
  exact this.mono (by decide)
theorem size_one : Fits (cSize x * cOne) 3174 ∧ 0 ≤ cSize x * cOne := by
  have a := (cSize_in x).2.mul cOne_fits
  exact ⟨a, Int.mul_nonneg (cSize_in x).1 (by have := cOne_pos; omega)⟩
theorem size_pos (h : 0 < cMag x) : 0 < cSize x := by
  have : Kg05.scale 0 < Kg05.scale (Kg05.mag x.toNat) := scale_lt (by unfold cMag at h; omega)
  rw [scale_zero] at this
  unfold cSize
  omega
theorem rank_mag (h : 0 < cRank x) : 0 < cMag x := by
  have a := cRank_abs x
  have b := cMag_in x
  omega
theorem nok_over (h : 0 < cRank y) : NOK (cSize x * cOne) (cSize y) :=
  ⟨size_one.2, size_pos (rank_mag h), size_one.1.mono (by decide), (cSize_in y).2.mono (by decide)⟩
theorem over_out1 (hx : 0 ≤ x) (h1 : x < 18446744073709551616) (hy : 0 ≤ y) (h2 : y < 18446744073709551616) :
    Builtin.bitOr (Builtin.bitAnd (Builtin.bitXor x y) 9223372036854775808) (cNear (cSize x * cOne) (cSize y)) = cOver x y := over_out hx h1 hy h2 rfl
theorem whole_out1 (h : Builtin.bitAnd x 9223372036854775808 ≠ 0) (h0 : 0 ≤ x) (h1 : x < 18446744073709551616) : -cFlr x = cWhole x := whole_neg (sign_set h0 h1 h)
theorem whole_out2 (h : Builtin.bitAnd x 9223372036854775808 = 0) (h0 : 0 ≤ x) (h1 : x < 18446744073709551616) : cFlr x = cWhole x := whole_pos (sign_not h0 h1 h)
variable {prog : Program} {w : World} {A : Around} {E : Value → Shared → Prop} {s : Shared} {t u : Tok} {Q : Value → Shared → Prop}
theorem st_one (k : Q (.int cOne s.toks) { s with toks := s.toks + 1 }) : wpAny (model prog w) A (binaryOp .LShift (.int 1 t) (.int 1074 u)) Q E s := by
  refine PyProof.Rows.lshift_int_small (by decide) (by decide) (by decide) ?_
  rw [one_eq, Int.one_mul]
  exact k
theorem st_shlU (k : Fits (cSize x * cOne) 3174 → 0 ≤ cSize x * cOne → Q (.int (cSize x * cOne) s.toks) { s with toks := s.toks + 1 }) : wpAny (model prog w) A (binaryOp .LShift (.int (cSize x) t) (.int 1074 u)) Q E s := by
  refine PyProof.Rows.lshift_int (by decide) (by have := (cSize_in x).2.bits; omega) ?_
  rw [one_eq]
  exact k size_one.1 size_one.2
theorem st_shrU (k : Q (.int (cFlr x) s.toks) { s with toks := s.toks + 1 }) : wpAny (model prog w) A (binaryOp .RShift (.int (cSize x) t) (.int 1074 u)) Q E s := by
  refine PyProof.Rows.rshift_int (by decide) ?_
  rw [one_eq]
  exact k
end
end My
end
section
open PySem PySem.W PyProof.Rows
open PySem.Builtin.Int (intBits)
namespace My
theorem div_mod_of {a k z : Nat} (h : z < a) : (a * k + z) / a = k ∧ (a * k + z) % a = z := by
  have ha : 0 < a := by omega
  constructor
  · rw [Nat.mul_add_div ha, Nat.div_eq_of_lt h, Nat.add_zero]
  · rw [Nat.mul_add_mod, Nat.mod_eq_of_lt h]
/-- the nearest to the whole root, with half a unit for what it leaves, is the nearest to the root -/
theorem near_twice {N r rest : Nat} (hr : r = Kg05.rootBelow N) (big : 2 ^ 53 ≤ r) (h : rest = if r * r = N then 0 else 1) : Kg05.near (2 * r + rest) 2 = Kg05.nearRoot N := by
  obtain ⟨s0, s1⟩ := rootBelow_spec N
  rw [← hr] at s0 s1
  have r1 : rest ≤ 1 := by rw [h]; split <;> omega
  have n53 : ¬ r < 2 ^ 53 := Nat.not_lt.mpr big
  have l53 : 53 ≤ Nat.log2 r := (le_log2 (by omega)).mpr big
  unfold Kg05.near Kg05.nearRoot
  dsimp only
  rw [← hr, show (2 * r + rest) / 2 = r by omega, if_neg n53]
  obtain ⟨f, hf⟩ : ∃ f, Nat.log2 r - 52 = f + 1 := ⟨Nat.log2 r - 53, by omega⟩
  rw [hf, Nat.pow_succ 2 f, Nat.mul_comm (2 ^ f) 2]
  have hP := two_pos f
  generalize 2 ^ f = P at hP ⊢
  have hrk := Nat.div_add_mod r (2 * P)
  have hm := Nat.mod_lt r (show 0 < 2 * P by omega)
  generalize r / (2 * P) = k at hrk ⊢
  generalize r % (2 * P) = z at hrk hm
  have e4 : 2 * r + rest = 2 * (2 * P) * k + (2 * z + rest) := by
    rw [← hrk, Nat.mul_assoc 2 (2 * P) k]; omega
  obtain ⟨d1, d2⟩ := div_mod_of (a := 2 * (2 * P)) (k := k) (z := 2 * z + rest) (by omega)
  have mid : ((2 * k + 1) * (2 * P)) ^ 2 = 4 * ((2 * P * k + P) * (2 * P * k + P)) := by
    have : (2 * k + 1) * (2 * P) = 2 * (2 * P * k + P) := by
      rw [Nat.add_mul, Nat.mul_add, Nat.one_mul, Nat.mul_assoc 2 k, Nat.mul_comm k (2 * P)]
    rw [this, Nat.pow_two, Nat.mul_mul_mul_comm]
  congr 1
  congr 1
  unfold Kg05.rounded
  dsimp only
  rw [e4, d1, d2, mid]
  rcases Nat.lt_trichotomy z P with c | c | c
  · have lt : r < 2 * P * k + P := by omega
    have := Nat.mul_self_le_mul_self (show r + 1 ≤ 2 * P * k + P by omega)
    rw [if_pos (by omega), if_pos (by omega)]
  · have er : 2 * P * k + P = r := by omega
    rw [er]
    by_cases q : r * r = N
    · rw [if_pos q] at h
      subst h
      rw [if_neg (by omega), if_neg (by omega), if_neg (by omega), if_neg (by omega)]
    · rw [if_neg q] at h
      subst h
      rw [if_neg (by omega), if_pos (by omega), if_neg (by omega), if_pos (by omega)]
  · have := Nat.mul_self_le_mul_self (show 2 * P * k + P + 1 ≤ r by omega)
    have : (2 * P * k + P) * (2 * P * k + P) < (2 * P * k + P + 1) * (2 * P * k + P + 1) := Nat.mul_self_lt_mul_self (Nat.lt_succ_self _)
    rw [if_neg (by omega), if_pos (by omega), if_neg (by omega), if_pos (by omega)]

/-! the whole root -/
structure WOK (n : Int) : Prop where
  pos : 0 < n
  fits : Fits n 3174
def cWroot (n : Int) : Int := ((Kg05.rootBelow n.toNat : Nat) : Int)
/-- a number to divide by -/
structure Den (r : Int) : Prop where
  pos : 0 < r
  fits : Fits r 3200
def cStart (n : Int) : Int := ((2 ^ ((bits n.toNat + 1) / 2) : Nat) : Int)
/-- what holds between two of Newton's turns -/
structure Newt (n root closer : Int) : Prop where
  pos : 0 < root
  fits : Fits root 3200
  eq : closer = (root + n.fdiv root).fdiv 2
  up : n.toNat < (root.toNat + 1) * (root.toNat + 1)
theorem close_nat {n r : Int} (hn : 0 ≤ n) (hr : 0 ≤ r) : (r + n.fdiv r).fdiv 2 = (((r.toNat + n.toNat / r.toNat) / 2 : Nat) : Int) := by
  rw [fdiv_nat hn hr]
  generalize n.toNat / r.toNat = d
  rw [fdiv_nat (by omega) (by decide)]
  congr 2
  omega
theorem bits_lt (n : Nat) : n < 2 ^ bits n := by
  unfold bits
  split
  · rename_i h; subst h; decide
  · rename_i h; exact (log2_lt h).mp (Nat.lt_succ_self _)
theorem WOK.bits {n : Int} (h : WOK n) : bits n.toNat ≤ 3174 := by
  rw [← bits_cast, Int.toNat_of_nonneg (by have := h.pos; omega)]
  exact h.fits.bits
theorem WOK.start {n : Int} (h : WOK n) : Den (cStart n) := by
  unfold cStart
  refine ⟨by have := two_pos ((My.bits n.toNat + 1) / 2); omega, ⟨?_⟩⟩
  rw [Int.natAbs_natCast]
  exact Nat.pow_lt_pow_right (by decide) (by have := h.bits; omega)
theorem Newt.start {n : Int} (h : WOK n) : 0 < cStart n ∧ 0 ≤ (cStart n + n.fdiv (cStart n)).fdiv 2 ∧ Newt n (cStart n) ((cStart n + n.fdiv (cStart n)).fdiv 2) := by
  have d := h.start
  refine ⟨d.pos, ?_, d.pos, d.fits, rfl, ?_⟩
  · rw [close_nat (by have := h.pos; omega) (by have := d.pos; omega)]
    exact Int.natCast_nonneg _
  · unfold cStart
    rw [Int.toNat_natCast]
    have a := bits_lt n.toNat
    have b : 2 ^ My.bits n.toNat ≤ 2 ^ ((My.bits n.toNat + 1) / 2) * 2 ^ ((My.bits n.toNat + 1) / 2) := by
      rw [← Nat.pow_add]
      exact Nat.pow_le_pow_right (by decide) (by omega)
    have c := Nat.mul_self_le_mul_self (Nat.le_succ (2 ^ ((My.bits n.toNat + 1) / 2)))
    exact Nat.lt_of_lt_of_le a (Nat.le_trans b c)
theorem Newt.closer {n r c : Int} (I : Newt n r c) (h : WOK n) : 0 < c ∧ n.toNat < (c.toNat + 1) * (c.toNat + 1) := by
  have e := I.eq
  rw [close_nat (by have := h.pos; omega) (by have := I.pos; omega)] at e
  have g := newton_ge (n := n.toNat) (r := r.toNat) (by have := I.pos; omega)
  have ec : c.toNat = (r.toNat + n.toNat / r.toNat) / 2 := by rw [e, Int.toNat_natCast]
  rw [ec]
  refine ⟨?_, g⟩
  have np := h.pos
  rw [e]
  generalize (r.toNat + n.toNat / r.toNat) / 2 = z at *
  rcases Nat.eq_zero_or_pos z with z0 | z0
  · subst z0; omega
  · omega
theorem Newt.den {n r c : Int} (I : Newt n r c) (h : WOK n) (lt : c < r) : Den c := by
  have a := (I.closer h).1
  exact ⟨a, I.fits.le (by omega) (by omega)⟩
theorem Newt.turn {n r c : Int} (I : Newt n r c) (h : WOK n) (lt : c < r) : 0 < c ∧ 0 ≤ (c + n.fdiv c).fdiv 2 ∧ Newt n c ((c + n.fdiv c).fdiv 2) := by
  have a := I.closer h
  refine ⟨a.1, ?_, a.1, (I.den h lt).fits, rfl, a.2⟩
  rw [close_nat (by have := h.pos; omega) (by omega)]
  exact Int.natCast_nonneg _
theorem Newt.out {n r c : Int} (I : Newt n r c) (h : WOK n) (ge : ¬ c < r) : r = cWroot n := by
  have e := I.eq
  have rp := I.pos
  rw [close_nat (by have := h.pos; omega) (by omega)] at e
  have le := newton_end (n := n.toNat) (r := r.toNat) (by omega) (by
    generalize (r.toNat + n.toNat / r.toNat) / 2 = z at *
    omega)
  unfold cWroot
  rw [rootBelow_of le I.up]
  omega
theorem cWroot_in (n : Int) : 0 ≤ cWroot n := by unfold cWroot; omega
theorem wroot_fits {n : Int} {k : Nat} (h0 : 0 ≤ n) (h : Fits n k) : Fits (cWroot n) k := by
  have s := (rootBelow_spec n.toNat).1
  unfold cWroot
  refine ⟨?_⟩
  rw [Int.natAbs_natCast]
  have l := h.lt
  have : Kg05.rootBelow n.toNat ≤ Kg05.rootBelow n.toNat * Kg05.rootBelow n.toNat := by
    rcases Nat.eq_zero_or_pos (Kg05.rootBelow n.toNat) with z | z
    · rw [z]; omega
    · exact Nat.le_mul_of_pos_right _ z
  generalize Kg05.rootBelow n.toNat * Kg05.rootBelow n.toNat = y at *
  omega
section
variable {prog : Program} {w : World} {A : Around} {E : Value → Shared → Prop} {s : Shared} {n r x : Int} {t u : Tok} {Q : Value → Shared → Prop}
theorem st_start (h : WOK n) (k : 0 < cStart n → Q (.int (cStart n) s.toks) { s with toks := s.toks + 1 }) : wpAny (model prog w) A (binaryOp .LShift (.int 1 t) (.int (((intBits n : Int) + 1).fdiv 2) u)) Q E s := by
  have b := h.bits
  have e : ((intBits n : Int) + 1).fdiv 2 = (((bits n.toNat + 1) / 2 : Nat) : Int) := by
    have c : (intBits n : Int) = (bits n.toNat : Int) := by
      rw [← bits_cast, Int.toNat_of_nonneg (by have := h.pos; omega)]
    rw [c, Int.fdiv_eq_ediv_of_nonneg _ (by decide)]
    omega
  rw [e]
  refine PyProof.Rows.lshift_int_small (by omega) (by omega) (by decide) ?_
  have e2 : (1 : Int) * 2 ^ (((bits n.toNat + 1) / 2 : Nat) : Int).toNat = cStart n := by
    rw [Int.one_mul, Int.toNat_natCast, pow_cast]; rfl
  rw [e2]
  exact k h.start.pos
theorem st_quot (h : WOK n) (hd : Den r) (k : 0 ≤ n.fdiv r → Q (.int (n.fdiv r) s.toks) { s with toks := s.toks + 1 }) : wpAny (model prog w) A (binaryOp .FloorDiv (.int n t) (.int r u)) Q E s :=
  PyProof.Rows.floordiv_int (by have := hd.pos; omega) (k (fdiv_le (by have := h.pos; omega) hd.pos).1) (.inl (noPy hd.fits (by decide)))
/-! the root of a double -/
theorem wok (h0 : x ≠ 0) (h1 : 0 ≤ x) (h2 : x < 9223372036854775808) : WOK (cSize x * cOne) := by
  have m : cMag x = x := by
    unfold cMag Kg05.mag Kg05.SIGN
    omega
  exact ⟨Int.mul_pos (size_pos (by omega)) cOne_pos, size_one.1⟩
theorem st_sq (k : Q (.int (cWroot (cSize x * cOne) * cWroot (cSize x * cOne)) s.toks) { s with toks := s.toks + 1 }) : wpAny (model prog w) A (binaryOp .Mult (.int (cWroot (cSize x * cOne)) t) (.int (cWroot (cSize x * cOne)) u)) Q E s :=
  PyProof.Rows.mul_int k (mulOk (wroot_fits size_one.2 size_one.1) (wroot_fits size_one.2 size_one.1) (by decide))
theorem st_dbl (k : Q (.int (2 * cWroot (cSize x * cOne)) s.toks) { s with toks := s.toks + 1 }) : wpAny (model prog w) A (binaryOp .Mult (.int 2 t) (.int (cWroot (cSize x * cOne)) u)) Q E s :=
  PyProof.Rows.mul_int k (mulOk (j := 2) ⟨by decide⟩ (wroot_fits size_one.2 size_one.1) (by decide))
end
theorem nok_root {x : Int} {d : Int} (h0 : 0 ≤ d) (h1 : d ≤ 1) : NOK (2 * cWroot (cSize x * cOne) + d) 2 := by
  have a := wroot_fits (n := cSize x * cOne) size_one.2 size_one.1
  have b := cWroot_in (cSize x * cOne)
  refine ⟨by omega, by decide, ?_, ⟨Nat.lt_of_lt_of_le (show (2 : Int).natAbs < 2 ^ 2 by decide) (Nat.pow_le_pow_right (by decide) (by decide))⟩⟩
  have c : Fits (2 * cWroot (cSize x * cOne) + d) (3174 + 1 + 1) := by
    have := a.lt
    refine ⟨?_⟩
    rw [Nat.pow_succ, Nat.pow_succ]
    omega
  exact c.mono (by decide)
theorem root_out0 {x : Int} (h : x = 0) : 0 = cRoot x := by subst h; rfl
theorem root_out {x d : Int} (h0 : x ≠ 0) (h1 : 0 ≤ x) (h2 : x < 9223372036854775808) (hd : d = if cWroot (cSize x * cOne) * cWroot (cSize x * cOne) = cSize x * cOne then 0 else 1) : cNear (2 * cWroot (cSize x * cOne) + d) 2 = cRoot x := by
  have m : Kg05.mag x.toNat = x.toNat := by
    unfold Kg05.mag Kg05.SIGN
    omega
  have eN : (cSize x * cOne).toNat = Kg05.scale (Kg05.mag x.toNat) * Kg05.ONE := by
    unfold cSize cOne
    rw [← Int.natCast_mul, Int.toNat_natCast]
    rfl
  have big : 2 ^ 53 ≤ Kg05.rootBelow (Kg05.scale (Kg05.mag x.toNat) * Kg05.ONE) := Nat.le_trans (Nat.pow_le_pow_right (by decide) (by decide)) (root_big (by rw [m]; omega))
  have nt := near_twice (rest := if Kg05.rootBelow (Kg05.scale (Kg05.mag x.toNat) * Kg05.ONE) * Kg05.rootBelow (Kg05.scale (Kg05.mag x.toNat) * Kg05.ONE) = Kg05.scale (Kg05.mag x.toNat) * Kg05.ONE then 0 else 1) rfl big rfl
  unfold cRoot Kg05.rootOf
  rw [if_neg (by rw [m]; omega), ← nt]
  unfold cNear
  have eW : cWroot (cSize x * cOne) = ((Kg05.rootBelow (Kg05.scale (Kg05.mag x.toNat) * Kg05.ONE) : Nat) : Int) := by
    unfold cWroot; rw [eN]
  have eZ : cSize x * cOne = ((Kg05.scale (Kg05.mag x.toNat) * Kg05.ONE : Nat) : Int) := by
    rw [← eN, Int.toNat_of_nonneg size_one.2]
  rw [eW, eZ] at hd
  rw [eW]
  generalize Kg05.scale (Kg05.mag x.toNat) * Kg05.ONE = N at *
  generalize Kg05.rootBelow N = R at *
  have hc : ((R : Int) * (R : Int) = (N : Int)) ↔ R * R = N := by
    rw [← Int.natCast_mul]; omega
  simp only [hc] at hd
  have e3 : (2 * (R : Int) + d).toNat = 2 * R + (if R * R = N then 0 else 1) := by
    rw [hd]
    split <;> omega
  rw [e3]
  rfl
theorem root_out1 {x : Int} (h : cWroot (cSize x * cOne) * cWroot (cSize x * cOne) = cSize x * cOne) (h0 : x ≠ 0) (h1 : 0 ≤ x) (h2 : x < 9223372036854775808) : cNear (2 * cWroot (cSize x * cOne) + 0) 2 = cRoot x :=
  root_out h0 h1 h2 (by rw [if_pos h])
theorem root_out2 {x : Int} (h : ¬ cWroot (cSize x * cOne) * cWroot (cSize x * cOne) = cSize x * cOne) (h0 : x ≠ 0) (h1 : 0 ≤ x) (h2 : x < 9223372036854775808) : cNear (2 * cWroot (cSize x * cOne) + 1) 2 = cRoot x :=
  root_out h0 h1 h2 (by rw [if_neg h])
end My
end
section
namespace My
theorem mag_of {x : Int} (h0 : 0 ≤ x) (h1 : x < 18446744073709551616) : (x < 9223372036854775808 ∧ cMag x = x ∧ cRank x = x) ∨ (9223372036854775808 ≤ x ∧ cMag x = x - 9223372036854775808 ∧ cRank x = 9223372036854775808 - x) := by
  by_cases n : Kg05.negative x.toNat = true
  · right
    rw [← rank_neg n]
    rw [neg_iff] at n
    unfold cMag Kg05.mag Kg05.SIGN
    omega
  · left
    rw [← rank_pos n]
    rw [neg_iff] at n
    unfold cMag Kg05.mag Kg05.SIGN
    omega
theorem neg_of {x : Int} (h0 : 0 ≤ x) : Kg05.negative x.toNat = true ↔ 9223372036854775808 ≤ x := by
  rw [neg_iff]; omega
theorem bound_scale : Kg05.scale 4890909195324358656 = 2 ^ 1137 := by
  have h := scale_pw (k := 1137) (by decide)
  have e : pw 1137 = 4890909195324358656 := by decide
  rw [e] at h
  exact h
theorem bound_next : Kg05.scale 4890909195324358657 = (2 ^ 52 + 1) * 2 ^ 1085 := by
  have h := scale_of 1085 (2 ^ 52 + 1) (by decide) (by decide)
  have e : 1085 * 2 ^ 52 + (2 ^ 52 + 1) = 4890909195324358657 := by decide
  rw [e] at h
  exact h
theorem floor_ge {S k : Nat} (h : k * 2 ^ 1074 ≤ S) : k ≤ S / 2 ^ 1074 := (Nat.le_div_iff_mul_le (two_pos _)).mpr h
theorem floor_lt {S k : Nat} (h : S < k * 2 ^ 1074) : S / 2 ^ 1074 < k := (Nat.div_lt_iff_lt_mul (two_pos _)).mpr h
theorem p63 : 2 ^ 63 * 2 ^ 1074 = 2 ^ 1137 := by rw [← Nat.pow_add]
theorem flr_nat (y : Int) : cFlr y = ((Kg05.scale (Kg05.mag y.toNat) / 2 ^ 1074 : Nat) : Int) := by
  unfold cFlr cSize cOne
  rw [Int.fdiv_eq_ediv_of_nonneg _ (Int.natCast_nonneg _)]
  rfl
theorem flr_ge {y : Int} (h : 4890909195324358656 ≤ cMag y) : 9223372036854775808 ≤ cFlr y := by
  have a : Kg05.scale 4890909195324358656 ≤ Kg05.scale (Kg05.mag y.toNat) := scale_le_iff.mpr (by unfold cMag at h; omega)
  rw [bound_scale, ← p63] at a
  have := floor_ge a
  rw [flr_nat]
  omega
theorem flr_gt {y : Int} (h : 4890909195324358656 < cMag y) : 9223372036854775808 < cFlr y := by
  have a : Kg05.scale 4890909195324358657 ≤ Kg05.scale (Kg05.mag y.toNat) := scale_le_iff.mpr (by unfold cMag at h; omega)
  rw [bound_next] at a
  have b : (2 ^ 63 + 1) * 2 ^ 1074 ≤ (2 ^ 52 + 1) * 2 ^ 1085 := by
    rw [show 1085 = 11 + 1074 by rfl, Nat.pow_add 2 11, ← Nat.mul_assoc]
    exact Nat.mul_le_mul_right _ (by decide)
  have := floor_ge (Nat.le_trans b a)
  rw [flr_nat]
  omega
theorem flr_lt {y : Int} (h : cMag y < 4890909195324358656) : cFlr y < 9223372036854775808 := by
  have a : Kg05.scale (Kg05.mag y.toNat) < Kg05.scale 4890909195324358656 := scale_lt (by unfold cMag at h; omega)
  rw [bound_scale, ← p63] at a
  have := floor_lt a
  rw [flr_nat]
  omega
theorem flr_le {y : Int} (h : cMag y ≤ 4890909195324358656) : cFlr y ≤ 9223372036854775808 := by
  have a : Kg05.scale (Kg05.mag y.toNat) ≤ Kg05.scale 4890909195324358656 := scale_le_iff.mpr (by unfold cMag at h; omega)
  rw [bound_scale, ← p63] at a
  have b : Kg05.scale (Kg05.mag y.toNat) < (2 ^ 63 + 1) * 2 ^ 1074 := by
    rw [Nat.add_mul, Nat.one_mul]
    have := two_pos 1074
    generalize 2 ^ 63 * 2 ^ 1074 = z at *
    generalize 2 ^ 1074 = o at *
    omega
  have := floor_lt b
  rw [flr_nat]
  omega
theorem flr_nn (y : Int) : 0 ≤ cFlr y := by rw [flr_nat]; exact Int.natCast_nonneg _
theorem whole_of {y : Int} (h0 : 0 ≤ y) (h1 : y < 18446744073709551616) : (y < 9223372036854775808 ∧ cWhole y = cFlr y) ∨ (9223372036854775808 ≤ y ∧ cWhole y = -cFlr y) := by
  by_cases n : Kg05.negative y.toNat = true
  · exact .inr ⟨(neg_of h0).mp n, (whole_neg n).symm⟩
  · refine .inl ⟨?_, (whole_pos n).symm⟩
    rw [neg_of h0] at n
    omega
section
variable {c m q l g x : Int}
theorem s_steps1 (h0 : 0 ≤ x) (h1 : x < 18446744073709551616) (h : cRank x ≤ 0 ∨ cRank x ≥ 9218868437227405312) : stp (st c m q l g) 9 x = (st c m q l g, [-1]) := by
  have e := mag_of h0 h1
  exact s_steps_bad h0 h1 (by omega)
theorem s_steps2 (h0 : 0 ≤ x) (h1 : x < 18446744073709551616) (h : cRank (cOver m x) ≥ 4890909195324358656 ∨ cRank (cOver m x) < -4890909195324358656) : stp (st c m q l g) 9 x = (st c m q l g, [-1]) := by
  have i := cOver_in m x
  have e := mag_of i.1 i.2
  have z := whole_of i.1 i.2
  refine s_steps_far h0 h1 (.inr ?_)
  rcases h with h | h
  · right
    have := flr_ge (y := cOver m x) (by omega)
    omega
  · left
    have := flr_gt (y := cOver m x) (by omega)
    omega
theorem s_steps3 (h0 : 0 ≤ x) (h1 : x < 18446744073709551616) (h2 : ¬ (cRank x ≤ 0 ∨ cRank x ≥ 9218868437227405312)) (h : ¬ (cRank (cOver m x) ≥ 4890909195324358656 ∨ cRank (cOver m x) < -4890909195324358656)) : stp (st c m q l g) 9 x = (st c m q l g, [0, cWhole (cOver m x)]) := by
  have e0 := mag_of h0 h1
  have i := cOver_in m x
  have e := mag_of i.1 i.2
  have z := whole_of i.1 i.2
  have n := flr_nn (cOver m x)
  refine s_steps (by omega) (by omega) (by omega) ?_ ?_
  · have := flr_le (y := cOver m x) (by omega)
    omega
  · rcases z with z | z
    · have := flr_lt (y := cOver m x) (by omega)
      omega
    · omega
end
/-! the turns, way by way -/
section
variable {ns told : List Int} {p c m q l g x : Int}
theorem w_count (A : All ns p told c m q l g) (a : At ns p 2) (h0 : 0 ≤ p) (h1 : p < (ns.length : Int)) (h2 : (ns.length : Int) ≤ 16000) (h3 : (told.length : Int) ≤ 3 * p) (h4 : 0 ≤ c ∧ c ≤ 100) (h5 : 0 ≤ m ∧ m < 18446744073709551616) (h6 : 0 ≤ q ∧ q < 9223372036854775808) (h7 : 0 ≤ l ∧ l < 18446744073709551616) (h8 : 0 ≤ g ∧ g < 18446744073709551616)  :
    0 ≤ p + 1 ∧ p + 1 ≤ (ns.length : Int) ∧ (ns.length : Int) ≤ 16000 ∧ ((told ++ [1] ++ [c]).length : Int) ≤ 3 * (p + 1) ∧ (0 ≤ c ∧ c ≤ 100) ∧ (0 ≤ m ∧ m < 18446744073709551616) ∧ (0 ≤ q ∧ q < 9223372036854775808) ∧ (0 ≤ l ∧ l < 18446744073709551616) ∧ (0 ≤ g ∧ g < 18446744073709551616) ∧ All ns (p + 1) (told ++ [1] ++ [c]) c m q l g :=
  t_one A a (by decide) (s_count h4.1) h0 h1 h2 h3 h4 h5 h6 h7 h8
theorem w_mean (A : All ns p told c m q l g) (a : At ns p 3) (h0 : 0 ≤ p) (h1 : p < (ns.length : Int)) (h2 : (ns.length : Int) ≤ 16000) (h3 : (told.length : Int) ≤ 3 * p) (h4 : 0 ≤ c ∧ c ≤ 100) (h5 : 0 ≤ m ∧ m < 18446744073709551616) (h6 : 0 ≤ q ∧ q < 9223372036854775808) (h7 : 0 ≤ l ∧ l < 18446744073709551616) (h8 : 0 ≤ g ∧ g < 18446744073709551616)  :
    0 ≤ p + 1 ∧ p + 1 ≤ (ns.length : Int) ∧ (ns.length : Int) ≤ 16000 ∧ ((told ++ [1] ++ [m]).length : Int) ≤ 3 * (p + 1) ∧ (0 ≤ c ∧ c ≤ 100) ∧ (0 ≤ m ∧ m < 18446744073709551616) ∧ (0 ≤ q ∧ q < 9223372036854775808) ∧ (0 ≤ l ∧ l < 18446744073709551616) ∧ (0 ≤ g ∧ g < 18446744073709551616) ∧ All ns (p + 1) (told ++ [1] ++ [m]) c m q l g :=
  t_one A a (by decide) (s_mean h5.1) h0 h1 h2 h3 h4 h5 h6 h7 h8
theorem w_least (A : All ns p told c m q l g) (a : At ns p 6) (h0 : 0 ≤ p) (h1 : p < (ns.length : Int)) (h2 : (ns.length : Int) ≤ 16000) (h3 : (told.length : Int) ≤ 3 * p) (h4 : 0 ≤ c ∧ c ≤ 100) (h5 : 0 ≤ m ∧ m < 18446744073709551616) (h6 : 0 ≤ q ∧ q < 9223372036854775808) (h7 : 0 ≤ l ∧ l < 18446744073709551616) (h8 : 0 ≤ g ∧ g < 18446744073709551616)  :
    0 ≤ p + 1 ∧ p + 1 ≤ (ns.length : Int) ∧ (ns.length : Int) ≤ 16000 ∧ ((told ++ [1] ++ [l]).length : Int) ≤ 3 * (p + 1) ∧ (0 ≤ c ∧ c ≤ 100) ∧ (0 ≤ m ∧ m < 18446744073709551616) ∧ (0 ≤ q ∧ q < 9223372036854775808) ∧ (0 ≤ l ∧ l < 18446744073709551616) ∧ (0 ≤ g ∧ g < 18446744073709551616) ∧ All ns (p + 1) (told ++ [1] ++ [l]) c m q l g :=
  t_one A a (by decide) (s_least h7.1) h0 h1 h2 h3 h4 h5 h6 h7 h8
theorem w_most (A : All ns p told c m q l g) (a : At ns p 7) (h0 : 0 ≤ p) (h1 : p < (ns.length : Int)) (h2 : (ns.length : Int) ≤ 16000) (h3 : (told.length : Int) ≤ 3 * p) (h4 : 0 ≤ c ∧ c ≤ 100) (h5 : 0 ≤ m ∧ m < 18446744073709551616) (h6 : 0 ≤ q ∧ q < 9223372036854775808) (h7 : 0 ≤ l ∧ l < 18446744073709551616) (h8 : 0 ≤ g ∧ g < 18446744073709551616)  :
    0 ≤ p + 1 ∧ p + 1 ≤ (ns.length : Int) ∧ (ns.length : Int) ≤ 16000 ∧ ((told ++ [1] ++ [g]).length : Int) ≤ 3 * (p + 1) ∧ (0 ≤ c ∧ c ≤ 100) ∧ (0 ≤ m ∧ m < 18446744073709551616) ∧ (0 ≤ q ∧ q < 9223372036854775808) ∧ (0 ≤ l ∧ l < 18446744073709551616) ∧ (0 ≤ g ∧ g < 18446744073709551616) ∧ All ns (p + 1) (told ++ [1] ++ [g]) c m q l g :=
  t_one A a (by decide) (s_most h8.1) h0 h1 h2 h3 h4 h5 h6 h7 h8
theorem w_var0 (A : All ns p told c m q l g) (a : At ns p 4) (h0 : 0 ≤ p) (h1 : p < (ns.length : Int)) (h2 : (ns.length : Int) ≤ 16000) (h3 : (told.length : Int) ≤ 3 * p) (h4 : 0 ≤ c ∧ c ≤ 100) (h5 : 0 ≤ m ∧ m < 18446744073709551616) (h6 : 0 ≤ q ∧ q < 9223372036854775808) (h7 : 0 ≤ l ∧ l < 18446744073709551616) (h8 : 0 ≤ g ∧ g < 18446744073709551616) (h : c < 2) :
    0 ≤ p + 1 ∧ p + 1 ≤ (ns.length : Int) ∧ (ns.length : Int) ≤ 16000 ∧ ((told ++ [1] ++ [0]).length : Int) ≤ 3 * (p + 1) ∧ (0 ≤ c ∧ c ≤ 100) ∧ (0 ≤ m ∧ m < 18446744073709551616) ∧ (0 ≤ q ∧ q < 9223372036854775808) ∧ (0 ≤ l ∧ l < 18446744073709551616) ∧ (0 ≤ g ∧ g < 18446744073709551616) ∧ All ns (p + 1) (told ++ [1] ++ [0]) c m q l g :=
  t_one A a (by decide) (s_var0 h4.1 h) h0 h1 h2 h3 h4 h5 h6 h7 h8
theorem w_var1 (A : All ns p told c m q l g) (a : At ns p 4) (h0 : 0 ≤ p) (h1 : p < (ns.length : Int)) (h2 : (ns.length : Int) ≤ 16000) (h3 : (told.length : Int) ≤ 3 * p) (h4 : 0 ≤ c ∧ c ≤ 100) (h5 : 0 ≤ m ∧ m < 18446744073709551616) (h6 : 0 ≤ q ∧ q < 9223372036854775808) (h7 : 0 ≤ l ∧ l < 18446744073709551616) (h8 : 0 ≤ g ∧ g < 18446744073709551616) (h : ¬ c < 2) :
    0 ≤ p + 1 ∧ p + 1 ≤ (ns.length : Int) ∧ (ns.length : Int) ≤ 16000 ∧ ((told ++ [1] ++ [cCount q (c - 1)]).length : Int) ≤ 3 * (p + 1) ∧ (0 ≤ c ∧ c ≤ 100) ∧ (0 ≤ m ∧ m < 18446744073709551616) ∧ (0 ≤ q ∧ q < 9223372036854775808) ∧ (0 ≤ l ∧ l < 18446744073709551616) ∧ (0 ≤ g ∧ g < 18446744073709551616) ∧ All ns (p + 1) (told ++ [1] ++ [cCount q (c - 1)]) c m q l g :=
  t_one A a (by decide) (s_var1 h4.1 h) h0 h1 h2 h3 h4 h5 h6 h7 h8
theorem w_dev0 (A : All ns p told c m q l g) (a : At ns p 5) (h0 : 0 ≤ p) (h1 : p < (ns.length : Int)) (h2 : (ns.length : Int) ≤ 16000) (h3 : (told.length : Int) ≤ 3 * p) (h4 : 0 ≤ c ∧ c ≤ 100) (h5 : 0 ≤ m ∧ m < 18446744073709551616) (h6 : 0 ≤ q ∧ q < 9223372036854775808) (h7 : 0 ≤ l ∧ l < 18446744073709551616) (h8 : 0 ≤ g ∧ g < 18446744073709551616) (h : c < 2) :
    0 ≤ p + 1 ∧ p + 1 ≤ (ns.length : Int) ∧ (ns.length : Int) ≤ 16000 ∧ ((told ++ [1] ++ [cRoot 0]).length : Int) ≤ 3 * (p + 1) ∧ (0 ≤ c ∧ c ≤ 100) ∧ (0 ≤ m ∧ m < 18446744073709551616) ∧ (0 ≤ q ∧ q < 9223372036854775808) ∧ (0 ≤ l ∧ l < 18446744073709551616) ∧ (0 ≤ g ∧ g < 18446744073709551616) ∧ All ns (p + 1) (told ++ [1] ++ [cRoot 0]) c m q l g :=
  t_one A a (by decide) (s_dev0 h4.1 h) h0 h1 h2 h3 h4 h5 h6 h7 h8
theorem w_dev1 (A : All ns p told c m q l g) (a : At ns p 5) (h0 : 0 ≤ p) (h1 : p < (ns.length : Int)) (h2 : (ns.length : Int) ≤ 16000) (h3 : (told.length : Int) ≤ 3 * p) (h4 : 0 ≤ c ∧ c ≤ 100) (h5 : 0 ≤ m ∧ m < 18446744073709551616) (h6 : 0 ≤ q ∧ q < 9223372036854775808) (h7 : 0 ≤ l ∧ l < 18446744073709551616) (h8 : 0 ≤ g ∧ g < 18446744073709551616) (h : ¬ c < 2) :
    0 ≤ p + 1 ∧ p + 1 ≤ (ns.length : Int) ∧ (ns.length : Int) ≤ 16000 ∧ ((told ++ [1] ++ [cRoot (cCount q (c - 1))]).length : Int) ≤ 3 * (p + 1) ∧ (0 ≤ c ∧ c ≤ 100) ∧ (0 ≤ m ∧ m < 18446744073709551616) ∧ (0 ≤ q ∧ q < 9223372036854775808) ∧ (0 ≤ l ∧ l < 18446744073709551616) ∧ (0 ≤ g ∧ g < 18446744073709551616) ∧ All ns (p + 1) (told ++ [1] ++ [cRoot (cCount q (c - 1))]) c m q l g :=
  t_one A a (by decide) (s_dev1 h4.1 h) h0 h1 h2 h3 h4 h5 h6 h7 h8
theorem w_side1 (A : All ns p told c m q l g) (a : At ns p 8) (b : Arg ns p x) (h0 : 0 ≤ p) (h1 : p + 1 < (ns.length : Int)) (h2 : (ns.length : Int) ≤ 16000) (h3 : (told.length : Int) ≤ 3 * p) (h4 : 0 ≤ c ∧ c ≤ 100) (h5 : 0 ≤ m ∧ m < 18446744073709551616) (h6 : 0 ≤ q ∧ q < 9223372036854775808) (h7 : 0 ≤ l ∧ l < 18446744073709551616) (h8 : 0 ≤ g ∧ g < 18446744073709551616) (h : cMag x > 9218868437227405312) :
    0 ≤ p + 2 ∧ p + 2 ≤ (ns.length : Int) ∧ (ns.length : Int) ≤ 16000 ∧ ((told ++ [1] ++ [2]).length : Int) ≤ 3 * (p + 2) ∧ (0 ≤ c ∧ c ≤ 100) ∧ (0 ≤ m ∧ m < 18446744073709551616) ∧ (0 ≤ q ∧ q < 9223372036854775808) ∧ (0 ≤ l ∧ l < 18446744073709551616) ∧ (0 ≤ g ∧ g < 18446744073709551616) ∧ All ns (p + 2) (told ++ [1] ++ [2]) c m q l g :=
  t_two A a b (by decide) (s_side_nan h) h0 h1 h2 h3 h4 h5 h6 h7 h8
theorem w_side2 (A : All ns p told c m q l g) (a : At ns p 8) (b : Arg ns p x) (h0 : 0 ≤ p) (h1 : p + 1 < (ns.length : Int)) (h2 : (ns.length : Int) ≤ 16000) (h3 : (told.length : Int) ≤ 3 * p) (h4 : 0 ≤ c ∧ c ≤ 100) (h5 : 0 ≤ m ∧ m < 18446744073709551616) (h6 : 0 ≤ q ∧ q < 9223372036854775808) (h7 : 0 ≤ l ∧ l < 18446744073709551616) (h8 : 0 ≤ g ∧ g < 18446744073709551616) (h : ¬ cMag x > 9218868437227405312) (e : cRank x = cRank m) :
    0 ≤ p + 2 ∧ p + 2 ≤ (ns.length : Int) ∧ (ns.length : Int) ≤ 16000 ∧ ((told ++ [1] ++ [0]).length : Int) ≤ 3 * (p + 2) ∧ (0 ≤ c ∧ c ≤ 100) ∧ (0 ≤ m ∧ m < 18446744073709551616) ∧ (0 ≤ q ∧ q < 9223372036854775808) ∧ (0 ≤ l ∧ l < 18446744073709551616) ∧ (0 ≤ g ∧ g < 18446744073709551616) ∧ All ns (p + 2) (told ++ [1] ++ [0]) c m q l g :=
  t_two A a b (by decide) (s_side_eq A h4 h e) h0 h1 h2 h3 h4 h5 h6 h7 h8
theorem w_side3 (A : All ns p told c m q l g) (a : At ns p 8) (b : Arg ns p x) (h0 : 0 ≤ p) (h1 : p + 1 < (ns.length : Int)) (h2 : (ns.length : Int) ≤ 16000) (h3 : (told.length : Int) ≤ 3 * p) (h4 : 0 ≤ c ∧ c ≤ 100) (h5 : 0 ≤ m ∧ m < 18446744073709551616) (h6 : 0 ≤ q ∧ q < 9223372036854775808) (h7 : 0 ≤ l ∧ l < 18446744073709551616) (h8 : 0 ≤ g ∧ g < 18446744073709551616) (h : ¬ cMag x > 9218868437227405312) (e : cRank x < cRank m) :
    0 ≤ p + 2 ∧ p + 2 ≤ (ns.length : Int) ∧ (ns.length : Int) ≤ 16000 ∧ ((told ++ [1] ++ [-1]).length : Int) ≤ 3 * (p + 2) ∧ (0 ≤ c ∧ c ≤ 100) ∧ (0 ≤ m ∧ m < 18446744073709551616) ∧ (0 ≤ q ∧ q < 9223372036854775808) ∧ (0 ≤ l ∧ l < 18446744073709551616) ∧ (0 ≤ g ∧ g < 18446744073709551616) ∧ All ns (p + 2) (told ++ [1] ++ [-1]) c m q l g :=
  t_two A a b (by decide) (s_side_lt A h4 h e) h0 h1 h2 h3 h4 h5 h6 h7 h8
theorem w_side4 (A : All ns p told c m q l g) (a : At ns p 8) (b : Arg ns p x) (h0 : 0 ≤ p) (h1 : p + 1 < (ns.length : Int)) (h2 : (ns.length : Int) ≤ 16000) (h3 : (told.length : Int) ≤ 3 * p) (h4 : 0 ≤ c ∧ c ≤ 100) (h5 : 0 ≤ m ∧ m < 18446744073709551616) (h6 : 0 ≤ q ∧ q < 9223372036854775808) (h7 : 0 ≤ l ∧ l < 18446744073709551616) (h8 : 0 ≤ g ∧ g < 18446744073709551616) (h : ¬ cMag x > 9218868437227405312) (e : ¬ cRank x = cRank m) (e2 : ¬ cRank x < cRank m) :
    0 ≤ p + 2 ∧ p + 2 ≤ (ns.length : Int) ∧ (ns.length : Int) ≤ 16000 ∧ ((told ++ [1] ++ [1]).length : Int) ≤ 3 * (p + 2) ∧ (0 ≤ c ∧ c ≤ 100) ∧ (0 ≤ m ∧ m < 18446744073709551616) ∧ (0 ≤ q ∧ q < 9223372036854775808) ∧ (0 ≤ l ∧ l < 18446744073709551616) ∧ (0 ≤ g ∧ g < 18446744073709551616) ∧ All ns (p + 2) (told ++ [1] ++ [1]) c m q l g :=
  t_two A a b (by decide) (s_side_gt A h4 h e e2) h0 h1 h2 h3 h4 h5 h6 h7 h8
theorem w_refuse (A : All ns p told c m q l g) (a : At ns p 1) (b : Arg ns p x) (h0 : 0 ≤ p) (h1 : p + 1 < (ns.length : Int)) (h2 : (ns.length : Int) ≤ 16000) (h3 : (told.length : Int) ≤ 3 * p) (h4 : 0 ≤ c ∧ c ≤ 100) (h5 : 0 ≤ m ∧ m < 18446744073709551616) (h6 : 0 ≤ q ∧ q < 9223372036854775808) (h7 : 0 ≤ l ∧ l < 18446744073709551616) (h8 : 0 ≤ g ∧ g < 18446744073709551616) (h : 6408622269748215808 < cMag x ∨ 4294967295 ≤ c) :
    0 ≤ p + 2 ∧ p + 2 ≤ (ns.length : Int) ∧ (ns.length : Int) ≤ 16000 ∧ ((told ++ [1] ++ [-1]).length : Int) ≤ 3 * (p + 2) ∧ (0 ≤ c ∧ c ≤ 100) ∧ (0 ≤ m ∧ m < 18446744073709551616) ∧ (0 ≤ q ∧ q < 9223372036854775808) ∧ (0 ≤ l ∧ l < 18446744073709551616) ∧ (0 ≤ g ∧ g < 18446744073709551616) ∧ All ns (p + 2) (told ++ [1] ++ [-1]) c m q l g :=
  t_two A a b (by decide) (s_refuse h) h0 h1 h2 h3 h4 h5 h6 h7 h8
theorem w_steps1 (A : All ns p told c m q l g) (a : At ns p 9) (b : Arg ns p x) (h0 : 0 ≤ p) (h1 : p + 1 < (ns.length : Int)) (h2 : (ns.length : Int) ≤ 16000) (h3 : (told.length : Int) ≤ 3 * p) (h4 : 0 ≤ c ∧ c ≤ 100) (h5 : 0 ≤ m ∧ m < 18446744073709551616) (h6 : 0 ≤ q ∧ q < 9223372036854775808) (h7 : 0 ≤ l ∧ l < 18446744073709551616) (h8 : 0 ≤ g ∧ g < 18446744073709551616) (x0 : 0 ≤ x) (x1 : x < 18446744073709551616) (h : cRank x ≤ 0 ∨ cRank x ≥ 9218868437227405312) :
    0 ≤ p + 2 ∧ p + 2 ≤ (ns.length : Int) ∧ (ns.length : Int) ≤ 16000 ∧ ((told ++ [1] ++ [-1]).length : Int) ≤ 3 * (p + 2) ∧ (0 ≤ c ∧ c ≤ 100) ∧ (0 ≤ m ∧ m < 18446744073709551616) ∧ (0 ≤ q ∧ q < 9223372036854775808) ∧ (0 ≤ l ∧ l < 18446744073709551616) ∧ (0 ≤ g ∧ g < 18446744073709551616) ∧ All ns (p + 2) (told ++ [1] ++ [-1]) c m q l g :=
  t_two A a b (by decide) (s_steps1 x0 x1 h) h0 h1 h2 h3 h4 h5 h6 h7 h8
theorem w_steps2 (A : All ns p told c m q l g) (a : At ns p 9) (b : Arg ns p x) (h0 : 0 ≤ p) (h1 : p + 1 < (ns.length : Int)) (h2 : (ns.length : Int) ≤ 16000) (h3 : (told.length : Int) ≤ 3 * p) (h4 : 0 ≤ c ∧ c ≤ 100) (h5 : 0 ≤ m ∧ m < 18446744073709551616) (h6 : 0 ≤ q ∧ q < 9223372036854775808) (h7 : 0 ≤ l ∧ l < 18446744073709551616) (h8 : 0 ≤ g ∧ g < 18446744073709551616) (x0 : 0 ≤ x) (x1 : x < 18446744073709551616) (h : cRank (cOver m x) ≥ 4890909195324358656 ∨ cRank (cOver m x) < -4890909195324358656) :
    0 ≤ p + 2 ∧ p + 2 ≤ (ns.length : Int) ∧ (ns.length : Int) ≤ 16000 ∧ ((told ++ [1] ++ [-1]).length : Int) ≤ 3 * (p + 2) ∧ (0 ≤ c ∧ c ≤ 100) ∧ (0 ≤ m ∧ m < 18446744073709551616) ∧ (0 ≤ q ∧ q < 9223372036854775808) ∧ (0 ≤ l ∧ l < 18446744073709551616) ∧ (0 ≤ g ∧ g < 18446744073709551616) ∧ All ns (p + 2) (told ++ [1] ++ [-1]) c m q l g :=
  t_two A a b (by decide) (s_steps2 x0 x1 h) h0 h1 h2 h3 h4 h5 h6 h7 h8
theorem w_steps3 (A : All ns p told c m q l g) (a : At ns p 9) (b : Arg ns p x) (h0 : 0 ≤ p) (h1 : p + 1 < (ns.length : Int)) (h2 : (ns.length : Int) ≤ 16000) (h3 : (told.length : Int) ≤ 3 * p) (h4 : 0 ≤ c ∧ c ≤ 100) (h5 : 0 ≤ m ∧ m < 18446744073709551616) (h6 : 0 ≤ q ∧ q < 9223372036854775808) (h7 : 0 ≤ l ∧ l < 18446744073709551616) (h8 : 0 ≤ g ∧ g < 18446744073709551616) (x0 : 0 ≤ x) (x1 : x < 18446744073709551616) (k : ¬ (cRank x ≤ 0 ∨ cRank x ≥ 9218868437227405312)) (h : ¬ (cRank (cOver m x) ≥ 4890909195324358656 ∨ cRank (cOver m x) < -4890909195324358656)) :
    0 ≤ p + 2 ∧ p + 2 ≤ (ns.length : Int) ∧ (ns.length : Int) ≤ 16000 ∧ ((told ++ [2] ++ [0] ++ [cWhole (cOver m x)]).length : Int) ≤ 3 * (p + 2) ∧ (0 ≤ c ∧ c ≤ 100) ∧ (0 ≤ m ∧ m < 18446744073709551616) ∧ (0 ≤ q ∧ q < 9223372036854775808) ∧ (0 ≤ l ∧ l < 18446744073709551616) ∧ (0 ≤ g ∧ g < 18446744073709551616) ∧ All ns (p + 2) (told ++ [2] ++ [0] ++ [cWhole (cOver m x)]) c m q l g :=
  t_three A a b (by decide) (s_steps3 x0 x1 k h) h0 h1 h2 h3 h4 h5 h6 h7 h8
theorem w_add1 (A : All ns p told c m q l g) (a : At ns p 1) (b : Arg ns p x) (h0 : 0 ≤ p) (h1 : p + 1 < (ns.length : Int)) (h2 : (ns.length : Int) ≤ 16000) (h3 : (told.length : Int) ≤ 3 * p) (h4 : 0 ≤ c ∧ c ≤ 100) (h5 : 0 ≤ m ∧ m < 18446744073709551616) (h6 : 0 ≤ q ∧ q < 9223372036854775808) (h7 : 0 ≤ l ∧ l < 18446744073709551616) (h8 : 0 ≤ g ∧ g < 18446744073709551616) (h9 : 0 ≤ x ∧ x < 18446744073709551616) (h : ¬ cMag x > 6408622269748215808) (e1 : c = 0 ∨ cRank x < cRank l) (e2 : c = 0 ∨ cRank g < cRank x) :
    0 ≤ p + 2 ∧ p + 2 ≤ (ns.length : Int) ∧ (ns.length : Int) ≤ 16000 ∧ ((told ++ [1] ++ [0]).length : Int) ≤ 3 * (p + 2) ∧ (0 ≤ c + 1 ∧ c + 1 ≤ 100) ∧ (0 ≤ cPlus m (cCount (cMinus x m) (c + 1)) ∧ cPlus m (cCount (cMinus x m) (c + 1)) < 18446744073709551616) ∧ (0 ≤ cPlus q (cTimes (cMinus x m) (cMinus x (cPlus m (cCount (cMinus x m) (c + 1))))) ∧ cPlus q (cTimes (cMinus x m) (cMinus x (cPlus m (cCount (cMinus x m) (c + 1))))) < 9223372036854775808) ∧ (0 ≤ x ∧ x < 18446744073709551616) ∧ (0 ≤ x ∧ x < 18446744073709551616) ∧ All ns (p + 2) (told ++ [1] ++ [0]) (c + 1) (cPlus m (cCount (cMinus x m) (c + 1))) (cPlus q (cTimes (cMinus x m) (cMinus x (cPlus m (cCount (cMinus x m) (c + 1)))))) x x :=
  t_add A a b h (if_pos e1).symm (if_pos e2).symm h0 h1 h2 h3 h4 h5 h6 h7 h8 h9
theorem w_add2 (A : All ns p told c m q l g) (a : At ns p 1) (b : Arg ns p x) (h0 : 0 ≤ p) (h1 : p + 1 < (ns.length : Int)) (h2 : (ns.length : Int) ≤ 16000) (h3 : (told.length : Int) ≤ 3 * p) (h4 : 0 ≤ c ∧ c ≤ 100) (h5 : 0 ≤ m ∧ m < 18446744073709551616) (h6 : 0 ≤ q ∧ q < 9223372036854775808) (h7 : 0 ≤ l ∧ l < 18446744073709551616) (h8 : 0 ≤ g ∧ g < 18446744073709551616) (h9 : 0 ≤ x ∧ x < 18446744073709551616) (h : ¬ cMag x > 6408622269748215808) (e1 : c = 0 ∨ cRank x < cRank l) (e2 : ¬ (c = 0 ∨ cRank g < cRank x)) :
    0 ≤ p + 2 ∧ p + 2 ≤ (ns.length : Int) ∧ (ns.length : Int) ≤ 16000 ∧ ((told ++ [1] ++ [0]).length : Int) ≤ 3 * (p + 2) ∧ (0 ≤ c + 1 ∧ c + 1 ≤ 100) ∧ (0 ≤ cPlus m (cCount (cMinus x m) (c + 1)) ∧ cPlus m (cCount (cMinus x m) (c + 1)) < 18446744073709551616) ∧ (0 ≤ cPlus q (cTimes (cMinus x m) (cMinus x (cPlus m (cCount (cMinus x m) (c + 1))))) ∧ cPlus q (cTimes (cMinus x m) (cMinus x (cPlus m (cCount (cMinus x m) (c + 1))))) < 9223372036854775808) ∧ (0 ≤ x ∧ x < 18446744073709551616) ∧ (0 ≤ g ∧ g < 18446744073709551616) ∧ All ns (p + 2) (told ++ [1] ++ [0]) (c + 1) (cPlus m (cCount (cMinus x m) (c + 1))) (cPlus q (cTimes (cMinus x m) (cMinus x (cPlus m (cCount (cMinus x m) (c + 1)))))) x g :=
  t_add A a b h (if_pos e1).symm (if_neg e2).symm h0 h1 h2 h3 h4 h5 h6 h7 h8 h9
theorem w_add3 (A : All ns p told c m q l g) (a : At ns p 1) (b : Arg ns p x) (h0 : 0 ≤ p) (h1 : p + 1 < (ns.length : Int)) (h2 : (ns.length : Int) ≤ 16000) (h3 : (told.length : Int) ≤ 3 * p) (h4 : 0 ≤ c ∧ c ≤ 100) (h5 : 0 ≤ m ∧ m < 18446744073709551616) (h6 : 0 ≤ q ∧ q < 9223372036854775808) (h7 : 0 ≤ l ∧ l < 18446744073709551616) (h8 : 0 ≤ g ∧ g < 18446744073709551616) (h9 : 0 ≤ x ∧ x < 18446744073709551616) (h : ¬ cMag x > 6408622269748215808) (e1 : ¬ (c = 0 ∨ cRank x < cRank l)) (e2 : c = 0 ∨ cRank g < cRank x) :
    0 ≤ p + 2 ∧ p + 2 ≤ (ns.length : Int) ∧ (ns.length : Int) ≤ 16000 ∧ ((told ++ [1] ++ [0]).length : Int) ≤ 3 * (p + 2) ∧ (0 ≤ c + 1 ∧ c + 1 ≤ 100) ∧ (0 ≤ cPlus m (cCount (cMinus x m) (c + 1)) ∧ cPlus m (cCount (cMinus x m) (c + 1)) < 18446744073709551616) ∧ (0 ≤ cPlus q (cTimes (cMinus x m) (cMinus x (cPlus m (cCount (cMinus x m) (c + 1))))) ∧ cPlus q (cTimes (cMinus x m) (cMinus x (cPlus m (cCount (cMinus x m) (c + 1))))) < 9223372036854775808) ∧ (0 ≤ l ∧ l < 18446744073709551616) ∧ (0 ≤ x ∧ x < 18446744073709551616) ∧ All ns (p + 2) (told ++ [1] ++ [0]) (c + 1) (cPlus m (cCount (cMinus x m) (c + 1))) (cPlus q (cTimes (cMinus x m) (cMinus x (cPlus m (cCount (cMinus x m) (c + 1)))))) l x :=
  t_add A a b h (if_neg e1).symm (if_pos e2).symm h0 h1 h2 h3 h4 h5 h6 h7 h8 h9
theorem w_add4 (A : All ns p told c m q l g) (a : At ns p 1) (b : Arg ns p x) (h0 : 0 ≤ p) (h1 : p + 1 < (ns.length : Int)) (h2 : (ns.length : Int) ≤ 16000) (h3 : (told.length : Int) ≤ 3 * p) (h4 : 0 ≤ c ∧ c ≤ 100) (h5 : 0 ≤ m ∧ m < 18446744073709551616) (h6 : 0 ≤ q ∧ q < 9223372036854775808) (h7 : 0 ≤ l ∧ l < 18446744073709551616) (h8 : 0 ≤ g ∧ g < 18446744073709551616) (h9 : 0 ≤ x ∧ x < 18446744073709551616) (h : ¬ cMag x > 6408622269748215808) (e1 : ¬ (c = 0 ∨ cRank x < cRank l)) (e2 : ¬ (c = 0 ∨ cRank g < cRank x)) :
    0 ≤ p + 2 ∧ p + 2 ≤ (ns.length : Int) ∧ (ns.length : Int) ≤ 16000 ∧ ((told ++ [1] ++ [0]).length : Int) ≤ 3 * (p + 2) ∧ (0 ≤ c + 1 ∧ c + 1 ≤ 100) ∧ (0 ≤ cPlus m (cCount (cMinus x m) (c + 1)) ∧ cPlus m (cCount (cMinus x m) (c + 1)) < 18446744073709551616) ∧ (0 ≤ cPlus q (cTimes (cMinus x m) (cMinus x (cPlus m (cCount (cMinus x m) (c + 1))))) ∧ cPlus q (cTimes (cMinus x m) (cMinus x (cPlus m (cCount (cMinus x m) (c + 1))))) < 9223372036854775808) ∧ (0 ≤ l ∧ l < 18446744073709551616) ∧ (0 ≤ g ∧ g < 18446744073709551616) ∧ All ns (p + 2) (told ++ [1] ++ [0]) (c + 1) (cPlus m (cCount (cMinus x m) (c + 1))) (cPlus q (cTimes (cMinus x m) (cMinus x (cPlus m (cCount (cMinus x m) (c + 1)))))) l g :=
  t_add A a b h (if_neg e1).symm (if_neg e2).symm h0 h1 h2 h3 h4 h5 h6 h7 h8 h9
end
end My
end
section
namespace My
theorem cCount_in2 (x n : Int) : (0 ≤ cCount x n ∧ cCount x n < 18446744073709551616) ∧ ((0 ≤ x ∧ x < 9223372036854775808) ∧ 0 < n ∧ n < 9007199254740992 → cCount x n < 9223372036854775808) := by
  refine ⟨cCount_in x n, fun h => ?_⟩
  unfold cCount
  rw [quotient_count _ _ (by omega) (by omega)]
  have e : Kg05.negative x.toNat = false := by
    cases hq : Kg05.negative x.toNat with
    | false => rfl
    | true => rw [neg_iff] at hq; omega
  rw [e, signed_false]
  have := near_lt (Kg05.scale (Kg05.mag x.toNat)) n.toNat
  omega
end My
end
section
namespace My
theorem mag_out1 {x : Int} (h : 0 ≤ x) : PySem.Builtin.bitAnd x (9223372036854775808 - 1) = cMag x := mag_out h
theorem whole {ns told : List Int} {p c m q l g : Int} (A : All ns p told c m q l g) (h : ¬ p < (ns.length : Int)) (a : PyKg05.answers_asked ns = true) : told = PyKg05.answers ns := by
  rw [(asked_run a).2.1]
  exact A.inv.done (by omega)
open PySem PySem.W in
theorem ending {ns told : List Int} {p c m q l g : Int} (A : All ns p told c m q l g) (h : ¬ p < (ns.length : Int)) (osPre : Challenge.rw_readingstold_s01_answers.pre [ofPy (PyData.list (List.map PyData.int ns))] = true) :
    Challenge.rw_readingstold_s01_answers.post [ofPy (PyData.list (List.map PyData.int ns))] (WData.list (ofPys (List.map PyData.int told))) = true := by
  obtain ⟨osDec, osLeast, osMost, osItems⟩ := os_dec_ints (os_pre_isSome osPre)
  have osAsked := os_pre_asked osPre osDec
  refine os_post osDec ?_
  have e := whole A h osAsked
  subst e
  exact os_same_ints rfl
end My
end
open PySem PySem.W PyProof.Rows
local macro_rules | `(tactic| o_law) => `(tactic| skip)
local macro_rules | `(tactic| k_head) => `(tactic| k_headS)
local macro_rules | `(tactic| w_witness2) => `(tactic| exact ⟨[.list [.int 2]], by decide +kernel, by decide +kernel⟩)
set_option maxRecDepth 100000
set_option maxHeartbeats 0
open_top My_hd for PySem.Challenge.rw_readingstold_s01_answers
local macro_rules | `(tactic| walk_at "subscriptTail Name Subscript ref int") => `(tactic| (k_here; (with_reducible refine' My.step_widths ?h0 ?h1 ?h2 ?a0 ?a1 ?a2 ?a3 ?a4 ?a5 ?a6 ?a7 ?a8 ?a9); (case h0 => assumption); (case h1 => omega); (case h2 => omega); (all_goals intros)))
local macro_rules | `(tactic| walk_at "subscriptTail Name Constant ref int") => `(tactic| (k_here; (with_reducible show wpAny _ _ (subscriptTail _ _ (Value.ref _) (Value.int 0 _)) _ _ _); k_dflt ((refine' My.step_one0 ?N ?m ?I ?a ?h0 ?h1 ?_ ?hs); (case N => k_asm); (case m => k_mem); (case I => with_reducible assumption); (case a => assumption); (case h0 => omega); (case h1 => omega); (case hs => with_unfolding_all rfl)); intro t'))
local macro_rules | `(tactic| walk_at "subscriptTail Name Constant ref int") => `(tactic| (k_here; (with_reducible show wpAny _ _ (subscriptTail _ _ (Value.ref _) (Value.int 0 _)) _ _ _); k_dflt ((refine' My.step_two0 ?N ?m ?I ?a ?c ?h0 ?h1 ?_ ?hs); (case N => k_asm); (case m => k_mem); (case I => with_reducible assumption); (case a => assumption); (case c => assumption); (case h0 => omega); (case h1 => omega); (case hs => with_unfolding_all rfl)); intro t'))
local macro_rules | `(tactic| walk_at "subscriptTail Name Constant ref int") => `(tactic| (k_here; (with_reducible show wpAny _ _ (subscriptTail _ _ (Value.ref _) (Value.int 1 _)) _ _ _); k_dflt ((refine' My.step_two1 ?N ?m ?I ?a ?c ?h0 ?h1 ?_ ?hs); (case N => k_asm); (case m => k_mem); (case I => with_reducible assumption); (case a => assumption); (case c => assumption); (case h0 => omega); (case h1 => omega); (case hs => with_unfolding_all rfl)); intro t'))
local macro_rules | `(tactic| walk_at "call builtin:list.extend") => `(tactic| (k_here; (with_reducible show wpAny _ _ (call (Value.builtin _) [Value.ref _, Value.ref _]) _ _ _); k_dflt ((refine' My.step_ext1 ?F ?N ?b ?U ?z ?_); (case F => k_asm); (case N => k_asm); (case b => k_mem); (case U => k_upd); (case z => (simp only [Array.size_push, List.size_toArray]; omega))); intro h' F' N'; (try k_sweep)))
local macro_rules | `(tactic| walk_at "call builtin:list.extend") => `(tactic| (k_here; (with_reducible show wpAny _ _ (call (Value.builtin _) [Value.ref _, Value.ref _]) _ _ _); k_dflt ((refine' My.step_ext2 ?F ?N ?b ?U ?z ?_); (case F => k_asm); (case N => k_asm); (case b => k_mem); (case U => k_upd); (case z => (simp only [Array.size_push, List.size_toArray]; omega))); intro h' F' N'; (try k_sweep)))
local macro_rules | `(tactic| walk_at "binaryOp RShift int int") => `(tactic| (k_here; (with_reducible refine' My.st_exp ?_); intro cE))
local macro_rules | `(tactic| walk_at "binaryOp LShift int int") => `(tactic| (k_here; (with_reducible refine' My.st_size ?h0 ?h1 ?_); (case h0 => omega); (case h1 => omega)))
local macro_rules | `(tactic| walk_at "binaryOp FloorDiv int int") => `(tactic| (k_here; (with_reducible refine' My.st_div2 ?h0 ?_); (case h0 => assumption); intro cE))
local macro_rules | `(tactic| walk_at "binaryOp FloorDiv int int") => `(tactic| (k_here; (with_reducible refine' My.st_div ?h0 ?_); (case h0 => assumption)))
local macro_rules | `(tactic| walk_at "binaryOp LShift int int") => `(tactic| (k_here; (with_reducible refine' My.st_shlD ?h0 ?_); (case h0 => assumption); intro cE))
local macro_rules | `(tactic| walk_at "binaryOp LShift int int") => `(tactic| (k_here; (with_reducible refine' My.st_shl52 ?h0 ?_); (case h0 => assumption); intro cE))
local macro_rules | `(tactic| walk_at "binaryOp Mult int int") => `(tactic| (k_here; (with_reducible refine' My.st_mul ?h0 ?_); (case h0 => assumption)))
local macro_rules | `(tactic| walk_at "binaryOp Mult int int") => `(tactic| (k_here; (with_reducible refine' My.st_twice ?h0 ?_); (case h0 => assumption)))
local macro_rules | `(tactic| walk_at "binaryOp LShift int int") => `(tactic| (k_here; (with_reducible refine' My.st_one ?_)))
local macro_rules | `(tactic| walk_at "binaryOp LShift int int") => `(tactic| (k_here; (with_reducible refine' My.st_shlU ?_); intro cE cE))
local macro_rules | `(tactic| walk_at "binaryOp RShift int int") => `(tactic| (k_here; (with_reducible refine' My.st_shrU ?_)))
local macro_rules | `(tactic| walk_at "binaryOp Mult int int") => `(tactic| (k_here; (with_reducible refine' My.st_mulS ?_); intro cE cE))
local macro_rules | `(tactic| walk_at "binaryOp LShift int int") => `(tactic| (k_here; (with_reducible refine' My.st_start ?h0 ?_); (case h0 => assumption); intro cE))
local macro_rules | `(tactic| walk_at "binaryOp FloorDiv int int") => `(tactic| (k_here; (with_reducible refine' My.st_quot ?h0 ?h1 ?_); (case h0 => assumption); (case h1 => first | exact My.WOK.start (by assumption) | exact My.Newt.den (by assumption) (by assumption) (by omega)); intro cE))
local macro_rules | `(tactic| walk_at "binaryOp Mult int int") => `(tactic| (k_here; (with_reducible refine' My.st_sq ?_)))
local macro_rules | `(tactic| walk_at "binaryOp Mult int int") => `(tactic| (k_here; (with_reducible refine' My.st_dbl ?_)))
local macro_rules | `(tactic| walk_at "call ref") => `(tactic| (k_here; (with_reducible show wpAny _ _ (call (Value.ref 22) [Value.int _ _]) _ _ _); k_dflt (refine' My.Ctr1.step (f := 22) My.cMag_in ?c ?k1 ?k2 ?k3 ?k4 ?k5 ?kK ?kp ?kd ?ku ?_); (case c => assumption); (case k1 => k_asm); (case k2 => k_asm); (case k3 => k_asm); (case k4 => k_asm); (case k5 => k_asm); (case kK => first | exact rfl | assumption); (case kp => ((try dsimp only); first | assumption | omega)); (case kd => ktr_room); (case ku => ktr_units); intro cbF t9 h9 tk9 F9 N9; (try dsimp only); (try k_fold)))
local macro_rules | `(tactic| walk_at "call ref") => `(tactic| (k_here; (with_reducible show wpAny _ _ (call (Value.ref 29) [Value.int _ _]) _ _ _); k_dflt (refine' My.Ctr1.step (f := 29) My.cRank_in ?c ?k1 ?k2 ?k3 ?k4 ?k5 ?kK ?kp ?kd ?ku ?_); (case c => assumption); (case k1 => k_asm); (case k2 => k_asm); (case k3 => k_asm); (case k4 => k_asm); (case k5 => k_asm); (case kK => first | exact rfl | assumption); (case kp => ((try dsimp only); first | assumption | omega)); (case kd => ktr_room); (case ku => ktr_units); intro cbF t9 h9 tk9 F9 N9; (try dsimp only); (try k_fold)))
local macro_rules | `(tactic| walk_at "call ref") => `(tactic| (k_here; (with_reducible show wpAny _ _ (call (Value.ref 36) [Value.int _ _]) _ _ _); k_dflt (refine' My.Ctr1.step (f := 36) My.cSize_in ?c ?k1 ?k2 ?k3 ?k4 ?k5 ?kK ?kp ?kd ?ku ?_); (case c => assumption); (case k1 => k_asm); (case k2 => k_asm); (case k3 => k_asm); (case k4 => k_asm); (case k5 => k_asm); (case kK => first | exact rfl | assumption); (case kp => ((try dsimp only); first | assumption | omega)); (case kd => ktr_room); (case ku => ktr_units); intro cbF t9 h9 tk9 F9 N9; (try dsimp only); (try k_fold)))
local macro_rules | `(tactic| walk_at "call ref") => `(tactic| (k_here; (with_reducible show wpAny _ _ (call (Value.ref 43) [Value.int _ _]) _ _ _); k_dflt (refine' My.Ctr1.step (f := 43) My.cUnits_in ?c ?k1 ?k2 ?k3 ?k4 ?k5 ?kK ?kp ?kd ?ku ?_); (case c => assumption); (case k1 => k_asm); (case k2 => k_asm); (case k3 => k_asm); (case k4 => k_asm); (case k5 => k_asm); (case kK => first | exact rfl | assumption); (case kp => ((try dsimp only); first | assumption | omega)); (case kd => ktr_room); (case ku => ktr_units); intro cbF t9 h9 tk9 F9 N9; (try dsimp only); (try k_fold)))
local macro_rules | `(tactic| walk_at "call ref") => `(tactic| (k_here; (with_reducible show wpAny _ _ (call (Value.ref 50) [Value.int _ _, Value.int _ _]) _ _ _); k_dflt (refine' My.Ctr2.step (f := 50) My.cNear_in ?c ?k1 ?k2 ?k3 ?k4 ?k5 ?kK ?kp ?kd ?ku ?_); (case c => assumption); (case k1 => k_asm); (case k2 => k_asm); (case k3 => k_asm); (case k4 => k_asm); (case k5 => k_asm); (case kK => first | exact rfl | assumption); (case kp => ((try dsimp only); first | assumption | omega | exact My.nok_plus (by assumption) (by assumption) | exact My.nok_times (by assumption) (by assumption) | exact My.nok_over (by omega) | exact My.nok_root (by decide) (by decide) | exact My.nok_count (by omega) (by omega))); (case kd => ktr_room); (case ku => ktr_units); intro cbF t9 h9 tk9 F9 N9; (try dsimp only); (try k_fold)))
local macro_rules | `(tactic| walk_at "call ref") => `(tactic| (k_here; (with_reducible show wpAny _ _ (call (Value.ref 57) [Value.int _ _, Value.int _ _]) _ _ _); k_dflt (refine' My.Ctr2.step (f := 57) My.cPlus_in ?c ?k1 ?k2 ?k3 ?k4 ?k5 ?kK ?kp ?kd ?ku ?_); (case c => assumption); (case k1 => k_asm); (case k2 => k_asm); (case k3 => k_asm); (case k4 => k_asm); (case k5 => k_asm); (case kK => first | exact rfl | assumption); (case kp => ((try dsimp only); first | assumption | omega | exact ⟨by omega, My.opp_in (by omega) (by omega)⟩)); (case kd => ktr_room); (case ku => ktr_units); intro cbF t9 h9 tk9 F9 N9; (try dsimp only); (try k_fold)))
local macro_rules | `(tactic| walk_at "call ref") => `(tactic| (k_here; (with_reducible show wpAny _ _ (call (Value.ref 64) [Value.int _ _, Value.int _ _]) _ _ _); k_dflt (refine' My.Ctr2.step (f := 64) My.cMinus_in ?c ?k1 ?k2 ?k3 ?k4 ?k5 ?kK ?kp ?kd ?ku ?_); (case c => assumption); (case k1 => k_asm); (case k2 => k_asm); (case k3 => k_asm); (case k4 => k_asm); (case k5 => k_asm); (case kK => first | exact rfl | assumption); (case kp => ((try dsimp only); first | assumption | omega)); (case kd => ktr_room); (case ku => ktr_units); intro cbF t9 h9 tk9 F9 N9; (try dsimp only); (try k_fold)))
local macro_rules | `(tactic| walk_at "call ref") => `(tactic| (k_here; (with_reducible show wpAny _ _ (call (Value.ref 71) [Value.int _ _, Value.int _ _]) _ _ _); k_dflt (refine' My.Ctr2.step (f := 71) My.cTimes_in ?c ?k1 ?k2 ?k3 ?k4 ?k5 ?kK ?kp ?kd ?ku ?_); (case c => assumption); (case k1 => k_asm); (case k2 => k_asm); (case k3 => k_asm); (case k4 => k_asm); (case k5 => k_asm); (case kK => first | exact rfl | assumption); (case kp => ((try dsimp only); first | assumption | omega)); (case kd => ktr_room); (case ku => ktr_units); intro cbF t9 h9 tk9 F9 N9; (try dsimp only); (try k_fold)))
local macro_rules | `(tactic| walk_at "call ref") => `(tactic| (k_here; (with_reducible show wpAny _ _ (call (Value.ref 78) [Value.int _ _, Value.int _ _]) _ _ _); k_dflt (refine' My.Ctr2.step (f := 78) My.cCount_in2 ?c ?k1 ?k2 ?k3 ?k4 ?k5 ?kK ?kp ?kd ?ku ?_); (case c => assumption); (case k1 => k_asm); (case k2 => k_asm); (case k3 => k_asm); (case k4 => k_asm); (case k5 => k_asm); (case kK => first | exact rfl | assumption); (case kp => ((try dsimp only); first | assumption | omega)); (case kd => ktr_room); (case ku => ktr_units); intro cbF t9 h9 tk9 F9 N9; (try dsimp only); (try k_fold)))
local macro_rules | `(tactic| walk_at "call ref") => `(tactic| (k_here; (with_reducible show wpAny _ _ (call (Value.ref 85) [Value.int _ _, Value.int _ _]) _ _ _); k_dflt (refine' My.Ctr2.step (f := 85) My.cOver_in ?c ?k1 ?k2 ?k3 ?k4 ?k5 ?kK ?kp ?kd ?ku ?_); (case c => assumption); (case k1 => k_asm); (case k2 => k_asm); (case k3 => k_asm); (case k4 => k_asm); (case k5 => k_asm); (case kK => first | exact rfl | assumption); (case kp => ((try dsimp only); first | assumption | omega)); (case kd => ktr_room); (case ku => ktr_units); intro cbF t9 h9 tk9 F9 N9; (try dsimp only); (try k_fold)))
local macro_rules | `(tactic| walk_at "call ref") => `(tactic| (k_here; (with_reducible show wpAny _ _ (call (Value.ref 92) [Value.int _ _]) _ _ _); k_dflt (refine' My.Ctr1.step (f := 92) My.cWroot_in ?c ?k1 ?k2 ?k3 ?k4 ?k5 ?kK ?kp ?kd ?ku ?_); (case c => assumption); (case k1 => k_asm); (case k2 => k_asm); (case k3 => k_asm); (case k4 => k_asm); (case k5 => k_asm); (case kK => first | exact rfl | assumption); (case kp => ((try dsimp only); first | assumption | omega | exact My.wok (by omega) (by omega) (by omega))); (case kd => ktr_room); (case ku => ktr_units); intro cbF t9 h9 tk9 F9 N9; (try dsimp only); (try k_fold)))
local macro_rules | `(tactic| walk_at "call ref") => `(tactic| (k_here; (with_reducible show wpAny _ _ (call (Value.ref 99) [Value.int _ _]) _ _ _); k_dflt (refine' My.Ctr1.step (f := 99) (fun _ => trivial) ?c ?k1 ?k2 ?k3 ?k4 ?k5 ?kK ?kp ?kd ?ku ?_); (case c => assumption); (case k1 => k_asm); (case k2 => k_asm); (case k3 => k_asm); (case k4 => k_asm); (case k5 => k_asm); (case kK => first | exact rfl | assumption); (case kp => ((try dsimp only); first | assumption | omega)); (case kd => ktr_room); (case ku => ktr_units); intro cbF t9 h9 tk9 F9 N9; (try dsimp only); (try k_fold)))
local macro_rules | `(tactic| walk_at "call ref") => `(tactic| (k_here; (with_reducible show wpAny _ _ (call (Value.ref 106) [Value.int _ _]) _ _ _); k_dflt (refine' My.Ctr1.step (f := 106) (fun _ => trivial) ?c ?k1 ?k2 ?k3 ?k4 ?k5 ?kK ?kp ?kd ?ku ?_); (case c => assumption); (case k1 => k_asm); (case k2 => k_asm); (case k3 => k_asm); (case k4 => k_asm); (case k5 => k_asm); (case kK => first | exact rfl | assumption); (case kp => ((try dsimp only); first | assumption | omega)); (case kd => ktr_room); (case ku => ktr_units); intro cbF t9 h9 tk9 F9 N9; (try dsimp only); (try k_fold)))
local macro_rules | `(tactic| cb_eq) => `(tactic| ((try dsimp only); first | with_reducible exact My.mag_out1 (by omega) | with_reducible exact My.rank_out1 (by assumption) (by omega) (by omega) | with_reducible exact My.rank_out2 (by assumption) (by omega) (by omega) | with_reducible exact My.size_out (by assumption) (by omega) | with_reducible exact My.units_out1 (by assumption) (by omega) (by omega) | with_reducible exact My.units_out2 (by assumption) (by omega) (by omega) | with_reducible exact My.near_up (My.NOK.hn (by assumption)) (My.NOK.hd (by assumption)) (by omega) | with_reducible exact My.near_stay (My.NOK.hn (by assumption)) (My.NOK.hd (by assumption)) (by omega) | with_reducible exact My.plus_zero (by omega) (by omega) (by omega) (by omega) (by assumption) | with_reducible exact My.plus_out1 (by omega) | with_reducible exact My.plus_out2 (by omega) | with_reducible exact My.minus_out (by omega) (by omega) | with_reducible exact My.times_out1 (by omega) (by omega) (by omega) (by omega) | with_reducible exact My.count_out (by omega) (by omega) (by omega) (by omega) | with_reducible exact My.over_out1 (by omega) (by omega) (by omega) (by omega) | with_reducible exact My.Newt.out (by assumption) (by assumption) (by omega) | with_reducible exact My.root_out1 (by assumption) (by omega) (by omega) (by omega) | with_reducible exact My.root_out2 (by assumption) (by omega) (by omega) (by omega) | with_reducible exact My.root_out0 (by omega) | with_reducible exact My.whole_out1 (by assumption) (by omega) (by omega) | with_reducible exact My.whole_out2 (by assumption) (by omega) (by omega)))
theorem My.ct_magnitude : My.Ctr1 1 PySem.Challenge.rw_readingstold_s01_answers.prog My_hd.heap_1 My_hd.view_1 (looseW My_hd.view_1 []) 22 (fun x => 0 ≤ x) My.cMag := by
  w_on
  k_fillS
  intro w mean mg mb news x t
  unfold My.Claim
  intros
  rename_i hret
  refine wpAny_call ?_
  k_dflt cell_enter
  k_steps
  all_goals cb_end hret
theorem My.ct_rank : My.Ctr1 2 PySem.Challenge.rw_readingstold_s01_answers.prog My_hd.heap_1 My_hd.view_1 (looseW My_hd.view_1 []) 29 (fun x => (0 ≤ x ∧ x < 18446744073709551616)) My.cRank := by
  have c_magnitude := My.ct_magnitude
  w_on
  k_fillS
  intro w mean mg mb news x t
  unfold My.Claim
  intros
  rename_i hret
  refine wpAny_call ?_
  k_dflt cell_enter
  k_steps
  all_goals cb_end hret
theorem My.ct_size : My.Ctr1 2 PySem.Challenge.rw_readingstold_s01_answers.prog My_hd.heap_1 My_hd.view_1 (looseW My_hd.view_1 []) 36 (fun x => (0 ≤ x ∧ x < 18446744073709551616)) My.cSize := by
  have c_magnitude := My.ct_magnitude
  w_on
  k_fillS
  intro w mean mg mb news x t
  unfold My.Claim
  intros
  rename_i hret
  refine wpAny_call ?_
  k_dflt cell_enter
  k_steps
  all_goals cb_end hret
theorem My.ct_units : My.Ctr1 3 PySem.Challenge.rw_readingstold_s01_answers.prog My_hd.heap_1 My_hd.view_1 (looseW My_hd.view_1 []) 43 (fun x => (0 ≤ x ∧ x < 18446744073709551616)) My.cUnits := by
  have c_size := My.ct_size
  w_on
  k_fillS
  intro w mean mg mb news x t
  unfold My.Claim
  intros
  rename_i hret
  refine wpAny_call ?_
  k_dflt cell_enter
  k_steps
  all_goals cb_end hret
theorem My.ct_nearest : My.Ctr2 1 PySem.Challenge.rw_readingstold_s01_answers.prog My_hd.heap_1 My_hd.view_1 (looseW My_hd.view_1 []) 50 My.NOK My.cNear := by
  w_on
  k_fillS
  intro w mean mg mb news x t y u
  unfold My.Claim
  intros
  rename_i hret
  refine wpAny_call ?_
  k_dflt cell_enter
  k_steps
  all_goals cb_end hret
theorem My.ct_plus : My.Ctr2 4 PySem.Challenge.rw_readingstold_s01_answers.prog My_hd.heap_1 My_hd.view_1 (looseW My_hd.view_1 []) 57 (fun x y => (0 ≤ x ∧ x < 18446744073709551616) ∧ (0 ≤ y ∧ y < 18446744073709551616)) My.cPlus := by
  have c_units := My.ct_units
  have c_nearest := My.ct_nearest
  w_on
  k_fillS
  intro w mean mg mb news x t y u
  unfold My.Claim
  intros
  rename_i hret
  refine wpAny_call ?_
  k_dflt cell_enter
  k_steps
  all_goals cb_end hret
theorem My.ct_minus : My.Ctr2 5 PySem.Challenge.rw_readingstold_s01_answers.prog My_hd.heap_1 My_hd.view_1 (looseW My_hd.view_1 []) 64 (fun x y => (0 ≤ x ∧ x < 18446744073709551616) ∧ (0 ≤ y ∧ y < 18446744073709551616)) My.cMinus := by
  have c_plus := My.ct_plus
  w_on
  k_fillS
  intro w mean mg mb news x t y u
  unfold My.Claim
  intros
  rename_i hret
  refine wpAny_call ?_
  k_dflt cell_enter
  k_steps
  all_goals cb_end hret
theorem My.ct_times : My.Ctr2 3 PySem.Challenge.rw_readingstold_s01_answers.prog My_hd.heap_1 My_hd.view_1 (looseW My_hd.view_1 []) 71 (fun x y => (0 ≤ x ∧ x < 18446744073709551616) ∧ (0 ≤ y ∧ y < 18446744073709551616)) My.cTimes := by
  have c_size := My.ct_size
  have c_nearest := My.ct_nearest
  w_on
  k_fillS
  intro w mean mg mb news x t y u
  unfold My.Claim
  intros
  rename_i hret
  refine wpAny_call ?_
  k_dflt cell_enter
  k_steps
  all_goals cb_end hret
theorem My.ct_over_count : My.Ctr2 3 PySem.Challenge.rw_readingstold_s01_answers.prog My_hd.heap_1 My_hd.view_1 (looseW My_hd.view_1 []) 78 (fun x n => (0 ≤ x ∧ x < 18446744073709551616) ∧ 0 < n ∧ n < 9007199254740992) My.cCount := by
  have c_size := My.ct_size
  have c_nearest := My.ct_nearest
  w_on
  k_fillS
  intro w mean mg mb news x t y u
  unfold My.Claim
  intros
  rename_i hret
  refine wpAny_call ?_
  k_dflt cell_enter
  k_steps
  all_goals cb_end hret
theorem My.ct_over : My.Ctr2 3 PySem.Challenge.rw_readingstold_s01_answers.prog My_hd.heap_1 My_hd.view_1 (looseW My_hd.view_1 []) 85 (fun x y => (0 ≤ x ∧ x < 18446744073709551616) ∧ (0 ≤ y ∧ y < 18446744073709551616) ∧ 0 < My.cRank y) My.cOver := by
  have c_size := My.ct_size
  have c_nearest := My.ct_nearest
  w_on
  k_fillS
  intro w mean mg mb news x t y u
  unfold My.Claim
  intros
  rename_i hret
  refine wpAny_call ?_
  k_dflt cell_enter
  k_steps
  all_goals cb_end hret
theorem My.ct_whole_root : My.Ctr1 1 PySem.Challenge.rw_readingstold_s01_answers.prog My_hd.heap_1 My_hd.view_1 (looseW My_hd.view_1 []) 92 My.WOK My.cWroot := by
  k_with "state" => first | exact My.Newt.start (by assumption) | exact My.Newt.turn (by assumption) (by assumption) (by omega)
  k_with "measure" => omega
  k_with "exec While Compare cons nil" => k_while_given ["square"] (fun n _ r c => 0 < r ∧ 0 ≤ c ∧ My.Newt n r c) (fun _ _ r _ => r.toNat) "root" "closer"
  w_on
  k_fillS
  intro w mean mg mb news x t
  unfold My.Claim
  intros
  rename_i hret
  refine wpAny_call ?_
  k_dflt cell_enter
  k_steps
  all_goals cb_end hret
theorem My.ct_square_root : My.Ctr1 3 PySem.Challenge.rw_readingstold_s01_answers.prog My_hd.heap_1 My_hd.view_1 (looseW My_hd.view_1 []) 99 (fun x => 0 ≤ x ∧ x < 9223372036854775808) My.cRoot := by
  have c_size := My.ct_size
  have c_whole_root := My.ct_whole_root
  have c_nearest := My.ct_nearest
  w_on
  k_fillS
  intro w mean mg mb news x t
  unfold My.Claim
  intros
  rename_i hret
  refine wpAny_call ?_
  k_dflt cell_enter
  k_steps
  all_goals cb_end hret
theorem My.ct_without_fraction : My.Ctr1 3 PySem.Challenge.rw_readingstold_s01_answers.prog My_hd.heap_1 My_hd.view_1 (looseW My_hd.view_1 []) 106 (fun x => (0 ≤ x ∧ x < 18446744073709551616)) My.cWhole := by
  have c_size := My.ct_size
  w_on
  k_fillS
  intro w mean mg mb news x t
  unfold My.Claim
  intros
  rename_i hret
  refine wpAny_call ?_
  k_dflt cell_enter
  k_steps
  all_goals cb_end hret
theorem PySem.Challenge.cw_readingstold_s01_answers_holds : PySem.Challenge.rw_readingstold_s01_answers.Holds := by
  k_with "state" => first | with_reducible exact My.All.start (by assumption) | with_reducible exact My.t_begin (by assumption) (by assumption) (by omega) (by omega) (by omega) (by omega) | with_reducible exact My.w_count (by assumption) (by assumption) (by omega) (by omega) (by omega) (by omega) (by omega) (by omega) (by omega) (by omega) (by omega) | with_reducible exact My.w_mean (by assumption) (by assumption) (by omega) (by omega) (by omega) (by omega) (by omega) (by omega) (by omega) (by omega) (by omega) | with_reducible exact My.w_least (by assumption) (by assumption) (by omega) (by omega) (by omega) (by omega) (by omega) (by omega) (by omega) (by omega) (by omega) | with_reducible exact My.w_most (by assumption) (by assumption) (by omega) (by omega) (by omega) (by omega) (by omega) (by omega) (by omega) (by omega) (by omega) | with_reducible exact My.w_var0 (by assumption) (by assumption) (by omega) (by omega) (by omega) (by omega) (by omega) (by omega) (by omega) (by omega) (by omega) (by omega) | with_reducible exact My.w_var1 (by assumption) (by assumption) (by omega) (by omega) (by omega) (by omega) (by omega) (by omega) (by omega) (by omega) (by omega) (by omega) | with_reducible exact My.w_dev0 (by assumption) (by assumption) (by omega) (by omega) (by omega) (by omega) (by omega) (by omega) (by omega) (by omega) (by omega) (by omega) | with_reducible exact My.w_dev1 (by assumption) (by assumption) (by omega) (by omega) (by omega) (by omega) (by omega) (by omega) (by omega) (by omega) (by omega) (by omega) | with_reducible exact My.w_side1 (by assumption) (by assumption) (by assumption) (by omega) (by omega) (by omega) (by omega) (by omega) (by omega) (by omega) (by omega) (by omega) (by omega) | with_reducible exact My.w_side2 (by assumption) (by assumption) (by assumption) (by omega) (by omega) (by omega) (by omega) (by omega) (by omega) (by omega) (by omega) (by omega) (by omega) (by omega) | with_reducible exact My.w_side3 (by assumption) (by assumption) (by assumption) (by omega) (by omega) (by omega) (by omega) (by omega) (by omega) (by omega) (by omega) (by omega) (by omega) (by omega) | with_reducible exact My.w_side4 (by assumption) (by assumption) (by assumption) (by omega) (by omega) (by omega) (by omega) (by omega) (by omega) (by omega) (by omega) (by omega) (by omega) (by omega) (by omega) | with_reducible exact My.w_refuse (by assumption) (by assumption) (by assumption) (by omega) (by omega) (by omega) (by omega) (by omega) (by omega) (by omega) (by omega) (by omega) (by omega) | with_reducible exact My.w_steps1 (by assumption) (by assumption) (by assumption) (by omega) (by omega) (by omega) (by omega) (by omega) (by omega) (by omega) (by omega) (by omega) (by omega) (by omega) (by omega) | with_reducible exact My.w_steps2 (by assumption) (by assumption) (by assumption) (by omega) (by omega) (by omega) (by omega) (by omega) (by omega) (by omega) (by omega) (by omega) (by omega) (by omega) (by omega) | with_reducible exact My.w_steps3 (by assumption) (by assumption) (by assumption) (by omega) (by omega) (by omega) (by omega) (by omega) (by omega) (by omega) (by omega) (by omega) (by omega) (by omega) (by omega) (by omega) | with_reducible exact My.w_add1 (by assumption) (by assumption) (by assumption) (by omega) (by omega) (by omega) (by omega) (by omega) (by omega) (by omega) (by omega) (by omega) (by omega) (by omega) (by omega) (by omega) | with_reducible exact My.w_add2 (by assumption) (by assumption) (by assumption) (by omega) (by omega) (by omega) (by omega) (by omega) (by omega) (by omega) (by omega) (by omega) (by omega) (by omega) (by omega) (by omega) | with_reducible exact My.w_add3 (by assumption) (by assumption) (by assumption) (by omega) (by omega) (by omega) (by omega) (by omega) (by omega) (by omega) (by omega) (by omega) (by omega) (by omega) (by omega) (by omega) | with_reducible exact My.w_add4 (by assumption) (by assumption) (by assumption) (by omega) (by omega) (by omega) (by omega) (by omega) (by omega) (by omega) (by omega) (by omega) (by omega) (by omega) (by omega) (by omega)
  k_with "exec While Compare cons nil" => k_while (fun ns p told c m q l g => 0 ≤ p ∧ p ≤ (ns.length : Int) ∧ (ns.length : Int) ≤ 16000 ∧ (told.length : Int) ≤ 3 * p ∧ (0 ≤ c ∧ c ≤ 100) ∧ (0 ≤ m ∧ m < 18446744073709551616) ∧ (0 ≤ q ∧ q < 9223372036854775808) ∧ (0 ≤ l ∧ l < 18446744073709551616) ∧ (0 ≤ g ∧ g < 18446744073709551616) ∧ My.All ns p told c m q l g) (fun ns place _ _ _ _ _ _ => ns.length - place.toNat) "place" "told" "instrument.count" "instrument.mean" "instrument.squares" "instrument.least" "instrument.most"
  refine My_hd ?_
  have c_magnitude := My.ct_magnitude
  have c_rank := My.ct_rank
  have c_plus := My.ct_plus
  have c_minus := My.ct_minus
  have c_times := My.ct_times
  have c_over_count := My.ct_over_count
  have c_over := My.ct_over
  have c_square_root := My.ct_square_root
  have c_without_fraction := My.ct_without_fraction
  w_strict k_goS
  exact My.ending (by assumption) (by assumption) (by assumption)
#print axioms PySem.Challenge.cw_readingstold_s01_answers_holds
