import PyProof.Rows.All
import Wide.All
import OpenK.AllK
import Wide.FinOn
import HandS.ForMost
import HandS.IsInst
import HandS.Wide
import HandS.WideBits
import HandS.MakeKwOnly
import PySem.Challenge.RW_rungladders_k04_whole_exact_numbers_besi
set_option Elab.async false
set_option linter.all false
set_option maxRecDepth 100000
/-! The mathematics: whole roots, common divisors, the one equation of a number, its sign beside a fraction. -/
namespace RL
/-- small: fewer than 2 ^ n -/
def Sm (n : Nat) (x : Int) : Prop := x.natAbs < 2 ^ n
theorem Sm.mono {m n : Nat} {x : Int} (h : Sm m x) (l : m ≤ n) : Sm n x := Nat.lt_of_lt_of_le h (Nat.pow_le_pow_right (by decide) l)
theorem Sm.mul {m n : Nat} {x y : Int} (h : Sm m x) (k : Sm n y) : Sm (m + n) (x * y) := by
  unfold Sm at *
  rw [Int.natAbs_mul, Nat.pow_add]
  exact Nat.mul_lt_mul'' h k
theorem Sm.add {n : Nat} {x y : Int} (h : Sm n x) (k : Sm n y) : Sm (n + 1) (x + y) := by
  unfold Sm at *
  rw [Nat.pow_succ]
  omega
theorem Sm.sub {n : Nat} {x y : Int} (h : Sm n x) (k : Sm n y) : Sm (n + 1) (x - y) := by
  unfold Sm at *
  rw [Nat.pow_succ]
  omega
theorem Sm.neg {n : Nat} {x : Int} (h : Sm n x) : Sm n (-x) := by
  unfold Sm at *
  omega
theorem Sm.of {n : Nat} {x y : Int} (h : Sm n y) (a : -y ≤ x) (b : x ≤ y) : Sm n x := by
  unfold Sm at *
  omega
theorem Sm.div {n : Nat} {x y : Int} (h : Sm n x) (hy : 0 < y) : Sm n (x / y) := by
  unfold Sm at *
  have h1 : (x / y).natAbs ≤ x.natAbs := by
    rcases Int.le_total 0 x with hx | hx
    · have := Int.ediv_le_self y hx
      have := Int.ediv_nonneg hx (Int.le_of_lt hy)
      omega
    · have h3 : x / y ≤ 0 := by
        have := Int.ediv_le_ediv hy hx
        simpa using this
      have h2 : x ≤ x / y := by
        have h4 : x * y ≤ x := by
          have q := Int.mul_nonneg (a := -x) (b := y - 1) (by omega) (by omega)
          have e : -x * (y - 1) = x - x * y := by grind
          omega
        exact (Int.le_ediv_iff_mul_le hy).mpr h4
      omega
  omega
theorem sm40 {x : Int} (a : -(10 ^ 40) ≤ x) (b : x ≤ 10 ^ 40) : Sm 133 x := by
  unfold Sm
  have : (10 : Int) ^ 40 < 2 ^ 133 := by decide
  have e : ((2 ^ 133 : Nat) : Int) = 2 ^ 133 := by decide
  omega
/-! ### whole roots -/
def IsRt (w r : Int) : Prop := 0 ≤ r ∧ r * r ≤ w ∧ w < (r + 1) * (r + 1)
theorem IsRt.le {w r s : Int} (h : IsRt w r) (k : IsRt w s) : r ≤ s := by
  obtain ⟨h0, h1, h2⟩ := h
  obtain ⟨k0, k1, k2⟩ := k
  rcases Int.lt_or_le s r with l | l
  · have : (s + 1) * (s + 1) ≤ r * r := Int.mul_le_mul (by omega) (by omega) (by omega) (by omega)
    omega
  · exact l
theorem IsRt.eq {w r s : Int} (h : IsRt w r) (k : IsRt w s) : r = s := Int.le_antisymm (h.le k) (k.le h)
def rtN : Nat → Nat
  | 0 => 0
  | n + 1 => if (rtN n + 1) * (rtN n + 1) ≤ n + 1 then rtN n + 1 else rtN n
theorem rtN_is : ∀ n, rtN n * rtN n ≤ n ∧ n < (rtN n + 1) * (rtN n + 1)
  | 0 => ⟨Nat.le_refl _, by decide⟩
  | n + 1 => by
    have ih := rtN_is n
    unfold rtN
    split
    · rename_i h
      refine ⟨h, ?_⟩
      have : (rtN n + 1 + 1) * (rtN n + 1 + 1) = (rtN n + 1) * (rtN n + 1) + 2 * (rtN n + 1) + 1 := by grind
      omega
    · rename_i h
      omega
def rt (w : Int) : Int := (rtN w.toNat : Int)
theorem rt_is {w : Int} (h : 0 ≤ w) : IsRt w (rt w) := by
  have k := rtN_is w.toNat
  have e : (w.toNat : Int) = w := Int.toNat_of_nonneg h
  refine ⟨Int.natCast_nonneg _, ?_, ?_⟩
  · have := Int.ofNat_le.mpr k.1
    rw [Int.natCast_mul, e] at this
    exact this
  · have := Int.ofNat_lt.mpr k.2
    rw [Int.natCast_mul, e, Int.natCast_add] at this
    exact this
theorem rt_of {w r : Int} (h : IsRt w r) : r = rt w := h.eq (rt_is (Int.le_trans (Int.mul_nonneg h.1 h.1) h.2.1))
theorem rt_sm {n : Nat} {w : Int} (h0 : 0 ≤ w) (h : Sm (2 * n) w) : Sm n (rt w) := by
  obtain ⟨a, b, _⟩ := rt_is h0
  unfold Sm at *
  refine Nat.lt_of_not_le fun q => ?_
  have e : (2 : Nat) ^ (2 * n) = 2 ^ n * 2 ^ n := by rw [← Nat.pow_add]; congr 1; omega
  have : 2 ^ n * 2 ^ n ≤ (rt w).natAbs * (rt w).natAbs := Nat.mul_le_mul q q
  have e2 : (rt w * rt w).natAbs = (rt w).natAbs * (rt w).natAbs := Int.natAbs_mul _ _
  have : (rt w * rt w).natAbs ≤ w.natAbs := by
    have := Int.mul_nonneg a a
    omega
  omega
/-- a step of Newton's -/
theorem newton {n g : Int} (hn : 0 ≤ n) (hg : 0 ≤ g) (h : n < (g + 1) * (g + 1)) (l : n < g * g) :
    0 < g ∧ 0 ≤ (g + n / g) / 2 ∧ (g + n / g) / 2 < g ∧ n < ((g + n / g) / 2 + 1) * ((g + n / g) / 2 + 1) := by
  have g0 : 0 < g := by
    rcases Int.lt_or_le 0 g with q | q
    · exact q
    · have : g = 0 := by omega
      subst this
      omega
  have q0 : 0 ≤ n / g := Int.ediv_nonneg hn hg
  have q1 : n < g * (n / g + 1) := by
    have := Int.lt_mul_ediv_self_add (x := n) (k := g) g0
    rw [Int.mul_add, Int.mul_one]
    exact this
  have q2 : n / g < g := Int.ediv_lt_of_lt_mul g0 l
  generalize n / g = q at *
  have hm : g + q ≤ 2 * ((g + q) / 2) + 1 := by omega
  have h0 : 0 ≤ (g + q) / 2 := by omega
  have h1 : (g + q) / 2 < g := by omega
  generalize (g + q) / 2 = m at *
  refine ⟨g0, h0, h1, ?_⟩
  have a1 : (g + q + 1) * (g + q + 1) ≤ (2 * (m + 1)) * (2 * (m + 1)) := Int.mul_le_mul (by omega) (by omega) (by omega) (by omega)
  have a2 : 0 ≤ (g - q - 1) * (g - q - 1) := by
    rcases Int.le_total 0 (g - q - 1) with z | z
    · exact Int.mul_nonneg z z
    · exact Int.mul_nonneg_of_nonpos_of_nonpos z z
  have a3 : (g + q + 1) * (g + q + 1) = 4 * (g * (q + 1)) + (g - q - 1) * (g - q - 1) := by grind
  have a4 : (2 * (m + 1)) * (2 * (m + 1)) = 4 * ((m + 1) * (m + 1)) := by grind
  omega
/-! ### common divisors -/
def gc (a b : Int) : Int := (Int.gcd a b : Int)
theorem gc_nonneg (a b : Int) : 0 ≤ gc a b := Int.natCast_nonneg _
theorem gc_pos {a b : Int} (h : a ≠ 0 ∨ b ≠ 0) : 0 < gc a b := by
  unfold gc
  have : 0 < Int.gcd a b := by
    rcases Nat.eq_zero_or_pos (Int.gcd a b) with z | z
    · rw [Int.gcd_eq_zero_iff] at z
      omega
    · exact z
  omega
theorem gc_dvd1 (a b : Int) : gc a b ∣ a := Int.gcd_dvd_left ..
theorem gc_dvd2 (a b : Int) : gc a b ∣ b := Int.gcd_dvd_right ..
theorem gc_zero {a : Int} (h : 0 ≤ a) : gc a 0 = a := by
  unfold gc
  rw [Int.gcd_zero_right]
  omega
theorem gc_step {a b : Int} (ha : 0 ≤ a) (hb : 0 < b) : gc b (a % b) = gc a b := by
  obtain ⟨n, rfl⟩ := Int.eq_ofNat_of_zero_le ha
  obtain ⟨m, rfl⟩ := Int.eq_ofNat_of_zero_le (Int.le_of_lt hb)
  unfold gc
  congr 1
  rw [← Int.natCast_emod, Int.gcd_natCast_natCast, Int.gcd_natCast_natCast, Nat.gcd_comm, ← Nat.gcd_rec, Nat.gcd_comm]
theorem gc_abs (a b : Int) : gc (if a < 0 then -a else a) (if b < 0 then -b else b) = gc a b := by
  unfold gc
  congr 1
  split <;> split <;> simp
theorem gc_abs2 (a b : Int) : gc a (if b < 0 then -b else b) = gc a b := by
  unfold gc
  congr 1
  split <;> simp
theorem ex_mul {g a : Int} (h : g ∣ a) (hg : 0 < g) : a = g * (a / g) := (Int.mul_ediv_cancel' h).symm
/-! ### the one equation of a number -/
/-- the parts of an equation that is accepted -/
def Good (a b c : Int) : Prop := (a = 0 ∧ 1 ≤ b ∧ 0 ≤ c) ∨ (1 ≤ a ∧ 1 ≤ c)
structure Nrm (a b c s l w : Int) : Prop where
  good : Good s l w
  /-- the sign beside x / y -/
  sgn : ∀ x y : Int, 0 ≤ x → 1 ≤ y → (0 < w * y * y - l * x * y - s * x * x ↔ a * x * x + b * x * y - c * y * y < 0) ∧ (w * y * y - l * x * y - s * x * x = 0 ↔ a * x * x + b * x * y - c * y * y = 0)
/-- multiplied by a number above 0 -/
theorem pos_iff {k u : Int} (hk : 0 < k) : (0 < k * u ↔ 0 < u) ∧ (k * u = 0 ↔ u = 0) := by
  refine ⟨⟨fun h => ?_, fun h => Int.mul_pos hk h⟩, ⟨fun h => ?_, fun h => by rw [h, Int.mul_zero]⟩⟩
  · rcases Int.lt_or_le 0 u with z | z
    · exact z
    · have := Int.mul_nonpos_of_nonneg_of_nonpos (Int.le_of_lt hk) z
      omega
  · rcases Int.mul_eq_zero.mp h with z | z
    · omega
    · exact z
theorem nrm_div {a b c g : Int} (h : Good a b c) (hg : 0 < g) (da : g ∣ a) (db : g ∣ b) (dc : g ∣ c) : Nrm a b c (a / g) (b / g) (c / g) := by
  have ea := ex_mul da hg
  have eb := ex_mul db hg
  have ec := ex_mul dc hg
  generalize a / g = s at *
  generalize b / g = l at *
  generalize c / g = w at *
  subst ea eb ec
  refine ⟨?_, fun x y hx hy => ?_⟩
  · rcases h with ⟨h1, h2, h3⟩ | ⟨h1, h2⟩
    · refine .inl ⟨((pos_iff hg).2.mp h1), ?_, ?_⟩
      · have := (pos_iff (u := l) hg).1.mp (by omega)
        omega
      · rcases Int.lt_or_le w 0 with z | z
        · have := Int.mul_neg_of_pos_of_neg hg z
          omega
        · exact z
    · refine .inr ⟨?_, ?_⟩
      · have := (pos_iff (u := s) hg).1.mp (by omega)
        omega
      · have := (pos_iff (u := w) hg).1.mp (by omega)
        omega
  · have e : g * s * x * x + g * l * x * y - g * w * y * y = -(g * (w * y * y - l * x * y - s * x * x)) := by grind
    rw [e]
    have := pos_iff (k := g) (u := w * y * y - l * x * y - s * x * x) hg
    refine ⟨?_, ?_⟩
    · rw [← this.1]; omega
    · rw [← this.2]; omega
theorem rt_gt {b t r : Int} (ht : 0 < t) (hr : 0 ≤ r) (e : b * b + t = r * r) : 0 < r + b ∧ 0 < r - b := by
  refine ⟨?_, ?_⟩
  · rcases Int.lt_or_le 0 (r + b) with z | z
    · exact z
    · have h1 : 0 ≤ (-b - r) * (-b + r) := Int.mul_nonneg (by omega) (by omega)
      have h2 : (-b - r) * (-b + r) = b * b - r * r := by grind
      omega
  · rcases Int.lt_or_le 0 (r - b) with z | z
    · exact z
    · have h1 : 0 ≤ (b - r) * (b + r) := Int.mul_nonneg (by omega) (by omega)
      have h2 : (b - r) * (b + r) = b * b - r * r := by grind
      omega
theorem nrm_root {a b c r g : Int} (ha : 1 ≤ a) (hc : 1 ≤ c) (hr : 0 ≤ r) (e : b * b + 4 * a * c = r * r) (hg : 0 < g) (d1 : g ∣ r - b) (d2 : g ∣ 2 * a) : Nrm a b c 0 (2 * a / g) ((r - b) / g) := by
  have hac : 0 < 4 * a * c := Int.mul_pos (by omega) (by omega)
  obtain ⟨p1, p2⟩ := rt_gt hac hr e
  have e1 := ex_mul d1 hg
  have e2 := ex_mul d2 hg
  have l0 : 1 ≤ 2 * a / g := by
    have := (pos_iff (u := 2 * a / g) hg).1.mp (by omega)
    omega
  have w0 : 1 ≤ (r - b) / g := by
    have := (pos_iff (u := (r - b) / g) hg).1.mp (by omega)
    omega
  generalize 2 * a / g = l at *
  generalize (r - b) / g = w at *
  refine ⟨.inl ⟨rfl, l0, by omega⟩, fun x y hx hy => ?_⟩
  have k : 0 < r * y + b * y + 2 * a * x := by
    have h1 : 0 < (r + b) * y := Int.mul_pos p1 (by omega)
    have h2 : 0 ≤ 2 * a * x := Int.mul_nonneg (by omega) hx
    have h3 : (r + b) * y = r * y + b * y := by grind
    omega
  have y0 : 0 < y := by omega
  -- y * g * (w y - l x) = y * ((r - b) y - 2 a x)
  have f1 : g * (w * y * y - l * x * y - 0 * x * x) = y * ((r - b) * y - 2 * a * x) := by
    rw [e1, e2]; grind
  have f2 : 4 * a * (c * y * y - a * x * x - b * x * y) = (r * y + b * y + 2 * a * x) * ((r - b) * y - 2 * a * x) := by grind
  have q1 := pos_iff (u := w * y * y - l * x * y - 0 * x * x) hg
  have q2 := pos_iff (u := (r - b) * y - 2 * a * x) y0
  have q3 := pos_iff (k := 4 * a) (u := c * y * y - a * x * x - b * x * y) (by omega)
  have q4 := pos_iff (u := (r - b) * y - 2 * a * x) k
  rw [f1] at q1
  rw [f2] at q3
  refine ⟨?_, ?_⟩
  · rw [← q1.1, q2.1, ← q4.1, q3.1]; omega
  · rw [← q1.2, q2.2, ← q4.2, q3.2]; omega
/-- what the program keeps of an equation -/
def parts (a b c : Int) : Int × Int × Int :=
  if a = 0 then (0, b / gc c b, c / gc c b)
  else if rt (b * b + 4 * a * c) * rt (b * b + 4 * a * c) = b * b + 4 * a * c then
    (0, 2 * a / gc (rt (b * b + 4 * a * c) - b) (2 * a), (rt (b * b + 4 * a * c) - b) / gc (rt (b * b + 4 * a * c) - b) (2 * a))
  else (a / gc (gc a b) c, b / gc (gc a b) c, c / gc (gc a b) c)
theorem inside_pos {a b c : Int} (h : 1 ≤ a ∧ 1 ≤ c) : 0 < 4 * a * c ∧ 0 ≤ b * b + 4 * a * c := by
  have hac : 0 < 4 * a * c := Int.mul_pos (by omega) (by omega)
  have hb : 0 ≤ b * b := by
    rcases Int.le_total 0 b with z | z
    · exact Int.mul_nonneg z z
    · exact Int.mul_nonneg_of_nonpos_of_nonpos z z
  omega
theorem parts_nrm {a b c : Int} (h : Good a b c) : Nrm a b c (parts a b c).1 (parts a b c).2.1 (parts a b c).2.2 := by
  unfold parts
  rcases h with ⟨rfl, h2, h3⟩ | h
  · rw [if_pos rfl]
    have g0 : 0 < gc c b := gc_pos (.inr (by omega))
    have := nrm_div (a := 0) (b := b) (c := c) (.inl ⟨rfl, h2, h3⟩) g0 (Int.dvd_zero _) (gc_dvd2 _ _) (gc_dvd1 _ _)
    rw [Int.zero_ediv] at this
    exact this
  · rw [if_neg (by omega)]
    have k := inside_pos (b := b) h
    split
    · rename_i e
      exact nrm_root h.1 h.2 (rt_is k.2).1 e.symm (gc_pos (.inr (by omega))) (gc_dvd1 _ _) (gc_dvd2 _ _)
    · exact nrm_div (.inr h) (gc_pos (.inr (by omega))) (Int.dvd_trans (gc_dvd1 _ _) (gc_dvd1 _ _)) (Int.dvd_trans (gc_dvd1 _ _) (gc_dvd2 _ _)) (gc_dvd2 _ _)
theorem parts_sm {a b c : Int} (h : Good a b c) (ha : Sm 133 a) (hb : Sm 133 b) (hc : Sm 133 c) : Sm 150 (parts a b c).1 ∧ Sm 150 (parts a b c).2.1 ∧ Sm 150 (parts a b c).2.2 := by
  unfold parts
  rcases h with ⟨rfl, h2, h3⟩ | h
  · rw [if_pos rfl]
    have g0 : 0 < gc c b := gc_pos (.inr (by omega))
    exact ⟨show Sm 150 0 by unfold Sm; decide, (hb.div g0).mono (by decide), (hc.div g0).mono (by decide)⟩
  · rw [if_neg (by omega)]
    have k := inside_pos (b := b) h
    have hd : Sm 270 (b * b + 4 * a * c) := by
      have h4 : Sm 3 4 := by unfold Sm; decide
      have e1 : Sm (133 + 133) (b * b) := hb.mul hb
      have e2 : Sm (3 + 133 + 133) (4 * a * c) := (h4.mul ha).mul hc
      exact (Sm.add (n := 269) (e1.mono (by decide)) (e2.mono (by decide)))
    have hr : Sm 135 (rt (b * b + 4 * a * c)) := rt_sm (n := 135) k.2 hd
    have h2 : Sm 2 2 := by unfold Sm; decide
    split
    · have g0 : 0 < gc (rt (b * b + 4 * a * c) - b) (2 * a) := gc_pos (.inr (by omega))
      refine ⟨show Sm 150 0 by unfold Sm; decide, ?_, ?_⟩
      · exact ((h2.mul ha).div g0).mono (by decide)
      · exact ((hr.sub (hb.mono (by decide))).div g0).mono (by decide)
    · have g0 : 0 < gc (gc a b) c := gc_pos (.inr (by omega))
      exact ⟨(ha.div g0).mono (by decide), (hb.div g0).mono (by decide), (hc.div g0).mono (by decide)⟩
/-! ### beside a fraction -/
def sg (n : Int) : Int := if 0 < n then 1 else if n < 0 then -1 else 0
/-- the law's side -/
def side (a b c x y : Int) : Int := if y = 0 then -1 else sg (-(a * x * x + b * x * y - c * y * y))
def beside (s l w x y : Int) : Int := sg (w * y * y - l * x * y - s * x * x)
theorem Nrm.side {a b c s l w x y : Int} (h : Nrm a b c s l w) (hx : 0 ≤ x) (hy : 1 ≤ y) : beside s l w x y = RL.side a b c x y := by
  obtain ⟨k1, k2⟩ := h.sgn x y hx hy
  unfold beside RL.side sg
  rw [if_neg (show ¬ y = 0 by omega)]
  generalize w * y * y - l * x * y - s * x * x = u at *
  generalize a * x * x + b * x * y - c * y * y = v at *
  by_cases p : 0 < u
  · have := k1.mp p
    rw [if_pos p, if_pos (by omega)]
  · by_cases q : u = 0
    · have := k2.mp q
      rw [if_neg p, if_neg (by omega), if_neg (by omega), if_neg (by omega)]
    · have : ¬ v < 0 := fun z => p (k1.mpr z)
      have : ¬ v = 0 := fun z => q (k2.mpr z)
      rw [if_neg p, if_pos (by omega), if_neg (by omega), if_pos (by omega)]
/-- the same fraction written otherwise -/
theorem side_same {a b c x y k : Int} (hk : 1 ≤ k) (hy : 1 ≤ y) : RL.side a b c (k * x) (k * y) = RL.side a b c x y := by
  unfold RL.side
  have h0 : ¬ k * y = 0 := by
    have := Int.mul_pos (a := k) (b := y) (by omega) (by omega)
    omega
  rw [if_neg h0, if_neg (show ¬ y = 0 by omega)]
  have kk : 0 < k * k := Int.mul_pos (by omega) (by omega)
  have e : -(a * (k * x) * (k * x) + b * (k * x) * (k * y) - c * (k * y) * (k * y)) = k * k * (-(a * x * x + b * x * y - c * y * y)) := by grind
  rw [e]
  generalize -(a * x * x + b * x * y - c * y * y) = u
  have q := pos_iff (u := u) kk
  unfold sg
  by_cases p : 0 < u
  · rw [if_pos p, if_pos (q.1.mpr p)]
  · by_cases z : u = 0
    · subst z
      rw [Int.mul_zero]
    · have h1 : ¬ 0 < k * k * u := fun t => p (q.1.mp t)
      have h2 : ¬ k * k * u = 0 := fun t => z (q.2.mp t)
      rw [if_neg p, if_pos (show u < 0 by omega), if_neg h1, if_pos (show k * k * u < 0 by omega)]
/-! ### floors -/
def flo (s l w t : Int) : Int := if s = 0 then t * w / l else (rt (t * t * (l * l + 4 * s * w)) - t * l) / (2 * s)
theorem flo_is {s l w t : Int} (h : Good s l w) (ht : 1 ≤ t) : 0 ≤ flo s l w t ∧ 0 ≤ beside s l w (flo s l w t) t ∧ beside s l w (flo s l w t + 1) t = -1 := by
  have sgp : ∀ n : Int, 0 ≤ n → 0 ≤ sg n := fun n hn => by
    unfold sg
    split
    · decide
    · split
      · omega
      · decide
  have sgn : ∀ n : Int, n < 0 → sg n = -1 := fun n hn => by
    unfold sg
    rw [if_neg (by omega), if_pos hn]
  unfold flo
  rcases h with ⟨rfl, h2, h3⟩ | h
  · rw [if_pos rfl]
    have l0 : 0 < l := by omega
    have d1 := Int.mul_ediv_self_le (x := t * w) (k := l) (by omega)
    have d2 := Int.lt_mul_ediv_self_add (x := t * w) (k := l) l0
    have d0 : 0 ≤ t * w / l := Int.ediv_nonneg (Int.mul_nonneg (by omega) h3) (by omega)
    generalize t * w / l = q at *
    refine ⟨d0, sgp _ ?_, sgn _ ?_⟩
    · have : w * t * t - l * q * t - 0 * q * q = t * (t * w - l * q) := by grind
      rw [this]
      exact Int.mul_nonneg (by omega) (by omega)
    · have : w * t * t - l * (q + 1) * t - 0 * (q + 1) * (q + 1) = -(t * (l * q + l - t * w)) := by grind
      rw [this]
      have := Int.mul_pos (a := t) (b := l * q + l - t * w) (by omega) (by omega)
      omega
  · rw [if_neg (by omega)]
    have hsw : 0 < 4 * s * w := Int.mul_pos (by omega) (by omega)
    have ll : 0 ≤ l * l := by
      rcases Int.le_total 0 l with z | z
      · exact Int.mul_nonneg z z
      · exact Int.mul_nonneg_of_nonpos_of_nonpos z z
    have w0 : 0 ≤ t * t * (l * l + 4 * s * w) := Int.mul_nonneg (Int.mul_nonneg (by omega) (by omega)) (by omega)
    obtain ⟨r0, r1, r2⟩ := rt_is w0
    generalize er : rt (t * t * (l * l + 4 * s * w)) = r at *
    -- r is at least t * l either way
    have rl : -r ≤ t * l ∧ t * l ≤ r := by
      have h0 : t * l * (t * l) ≤ t * t * (l * l + 4 * s * w) := by
        have e : t * t * (l * l + 4 * s * w) = t * l * (t * l) + t * t * (4 * s * w) := by grind
        have := Int.mul_nonneg (a := t * t) (b := 4 * s * w) (Int.mul_nonneg (by omega) (by omega)) (by omega)
        omega
      refine ⟨?_, ?_⟩
      · rcases Int.lt_or_le (t * l) (-r) with z | z
        · have : (r + 1) * (r + 1) ≤ (-(t * l)) * (-(t * l)) := Int.mul_le_mul (by omega) (by omega) (by omega) (by omega)
          have e : (-(t * l)) * (-(t * l)) = t * l * (t * l) := by grind
          omega
        · exact z
      · rcases Int.lt_or_le r (t * l) with z | z
        · have : (r + 1) * (r + 1) ≤ (t * l) * (t * l) := Int.mul_le_mul (by omega) (by omega) (by omega) (by omega)
          omega
        · exact z
    have s0 : 0 < 2 * s := by omega
    have d1 := Int.mul_ediv_self_le (x := r - t * l) (k := 2 * s) (by omega)
    have d2 := Int.lt_mul_ediv_self_add (x := r - t * l) (k := 2 * s) s0
    have d0 : 0 ≤ (r - t * l) / (2 * s) := Int.ediv_nonneg (by omega) (by omega)
    generalize (r - t * l) / (2 * s) = q at *
    have f : ∀ z : Int, 4 * s * (w * t * t - l * z * t - s * z * z) = t * t * (l * l + 4 * s * w) - (2 * s * z + t * l) * (2 * s * z + t * l) := fun z => by grind
    have sp : 0 < 4 * s := by omega
    refine ⟨d0, sgp _ ?_, sgn _ ?_⟩
    · have u1 : 0 ≤ 2 * s * q := Int.mul_nonneg (by omega) d0
      have u2 : (2 * s * q + t * l) * (2 * s * q + t * l) ≤ r * r := by
        rcases Int.le_total 0 (2 * s * q + t * l) with z | z
        · exact Int.mul_le_mul (by omega) (by omega) (by omega) (by omega)
        · have := Int.mul_le_mul (a := -(2 * s * q + t * l)) (b := -(2 * s * q + t * l)) (c := r) (d := r) (by omega) (by omega) (by omega) (by omega)
          have e : (-(2 * s * q + t * l)) * (-(2 * s * q + t * l)) = (2 * s * q + t * l) * (2 * s * q + t * l) := by grind
          omega
      have u3 := f q
      have u4 := pos_iff (u := w * t * t - l * q * t - s * q * q) sp
      rcases Int.lt_or_le (w * t * t - l * q * t - s * q * q) 0 with z | z
      · have := Int.mul_neg_of_pos_of_neg sp z
        omega
      · exact z
    · have u0 : 2 * s * (q + 1) = 2 * s * q + 2 * s := by grind
      have u2 : (r + 1) * (r + 1) ≤ (2 * s * (q + 1) + t * l) * (2 * s * (q + 1) + t * l) := Int.mul_le_mul (by omega) (by omega) (by omega) (by omega)
      have u3 := f (q + 1)
      rcases Int.lt_or_le (w * t * t - l * (q + 1) * t - s * (q + 1) * (q + 1)) 0 with z | z
      · exact z
      · have := Int.mul_nonneg (Int.le_of_lt sp) z
        omega
end RL

namespace RL
open PySem L2
def top (i : Nat) : Stmt := PySem.Challenge.pw_rungladders_k04_whole_exact_numbers_besi.main.body.getD i (.Pass ⟨0, 0, 0, 0⟩)
/-! ### a def as its callers see it -/
structure Df (P : Program) (w : World) (K : PySem.W.Frag) (mg : Str → Option Value) (base : Heap) (k : Nat) (x : Str) (ps : List Str) (sp : Sp) : Prop where
  ex : ∃ (f : Addr) (fd : FuncData), FnOk P w K mg base CX0 k f fd ps sp ∧ mg x = some (.ref f) ∧ PySem.W.keepIn K (.ref f) = true ∧ Binds K fd ps []
section
variable {X : Cx} {k : Nat} {ps : List Str} {sp : Sp} {x : Str} {p pos : Pos} {e : Expr} {es : List Expr} {t : TA}
theorem pe_df (D : Df X.prog X.w X.K X.mg X.base k x ps sp) (hr : Room k X.A) (hg : Gl X x)
    (ha : PA X (e :: es) t) (hdb : (x == ("__debug__" : Str)) = false := by decide) (he : starEach (e :: es) X.env = (false, eval e X.env) :: starEach es X.env := by rfl) (hpl : (backTo pos (starEach es X.env)).any (·.1) = false := by rfl) :
    PE X (.Call (.Name x p) (e :: es) [] pos) (tCall sp [] E0 t) := by
  obtain ⟨f, fd, G, hm, hk, hb⟩ := D.ex
  exact pe_call G hr hg hm hk hb .nil pass0 ha hdb he hpl
end
structure Txt (K : PySem.W.Frag) (mg : Str → Option Value) : Prop where
  len : mg "len" = none
  abs : mg "abs" = none
  int_ : mg "int" = none
  bool_ : mg "bool" = none
  tuple_ : mg "tuple" = none
  isinstance : mg "isinstance" = none
  divmod : mg "divmod" = none
  max : mg "max" = none
  min : mg "min" = none
  range : mg "range" = none
  all : mg "all" = none
/-! ### heaps -/
def But (c : Addr) (H H' : Hp) : Prop := ∀ b o, b ≠ c → H b = some o → H' b = some o
theorem But.refl (c : Addr) (H : Hp) : But c H H := fun _ _ _ h => h
theorem But.trans {c : Addr} {H H1 H2 : Hp} (a : But c H H1) (b : But c H1 H2) : But c H H2 := fun x o n h => b x o n (a x o n h)
theorem But.of {c : Addr} {H H' : Hp} (h : Same H H') : But c H H' := fun x o _ e => h x o e
theorem same_upd {H : Hp} {p : Addr} {o : HO} (h : H p = none) : Same H (upd H p o) := fun b x e => by
  rw [upd_ne (ne_of_none e h)]
  exact e
theorem But.upd {c : Addr} {H : Hp} {o : HO} : But c H (upd H c o) := fun b x n e => by
  rw [upd_ne n]
  exact e
theorem But.free {c : Addr} {H H' : Hp} (e : But c H H') {l : Addr} (n : l ≠ c) (h : H' l = none) : H l = none := by
  cases q : H l with
  | none => rfl
  | some o =>
    rw [e l o n q] at h
    cases h
def CupAt (c : Addr) (H : Hp) : Prop := ∃ x y : Int, H c = some (.lst [.int x, .int y]) ∧ 0 ≤ x ∧ x < 2147483629 ∧ 0 ≤ y
theorem CupAt.same {c : Addr} {H H' : Hp} (h : CupAt c H) (s : Same H H') : CupAt c H' := by
  obtain ⟨x, y, a, b⟩ := h
  exact ⟨x, y, s _ _ a, b⟩
theorem CupAt.ne {c b : Addr} {H : Hp} (h : CupAt c H) (n : H b = none) : c ≠ b := by
  obtain ⟨x, y, a, _⟩ := h
  exact ne_of_none a n
/-! ### promises -/
def spCup (K : PySem.W.Frag) : Sp := fun vs H Q _ => ∃ (a : Addr) (ns : List Int) (i : Nat), vs = [.ref a, .int (i : Int)] ∧ SqL K H a (ns.map V.int) ∧ i ≤ 100 ∧ ns.length ≤ 63 ∧
  ∀ H' c, Same H H' → H c = none → CupAt c H' → Q (.ref c) H'
def spSip : Sp := fun vs H Q _ => ∃ (c : Addr) (m : Int), vs = [.ref c, .int m] ∧ CupAt c H ∧ 0 < m ∧ Sm 200 m ∧
  ∀ H' r, But c H H' → CupAt c H' → 0 ≤ r → r < m → Q (.int r) H'
def spPick : Sp := fun vs H Q _ => ∃ (c l : Addr) (xs : List V), vs = [.ref c, .ref l] ∧ CupAt c H ∧ c ≠ l ∧ H l = some (.lst xs) ∧ 0 < xs.length ∧ xs.length ≤ 100 ∧
  ∀ H' v, But c H H' → CupAt c H' → v ∈ xs → Q v H'
def spPair : Sp := fun vs H Q _ => ∃ (t b : Int), vs = [.int t, .int b] ∧ 0 ≤ t ∧ 0 < b ∧ Sm 4000 t ∧ Sm 4000 b ∧
  ∀ H' p, Same H H' → H p = none → H' p = some (.tup [.int (t / gc t b), .int (b / gc t b)]) → Q (.ref p) H'
def spTen : Sp := fun vs H Q _ => ∃ n : Nat, vs = [.int (n : Int)] ∧ n ≤ 100 ∧ Q (.int (10 ^ n)) H
def spRoot : Sp := fun vs H Q _ => ∃ n : Int, vs = [.int n] ∧ 0 ≤ n ∧ Sm 4000 n ∧ ∀ H', Same H H' → Q (.int (rt n)) H'
section
variable {P : Program} {w : World} {K : PySem.W.Frag} {mg : Str → Option Value} {base : Heap}
abbrev s_law_sip : Stmt := top 29
theorem sc_law_sip : FnScope ["_law_cup_here", "_law_many", "_law_part"] ["_law_cup_here", "_law_many"] (defScope s_law_sip) := ⟨rfl, rfl, rfl, by decide +kernel, rfl, by decide +kernel, by decide +kernel⟩

theorem ok_sip {f : Addr} {fd : FuncData} (F : Fun K "_law_sip" "_law_sip" s_law_sip f fd) (T : Txt K mg) : FnOk P w K mg base CX0 1 f fd ["_law_cup_here", "_law_many"] spSip := by
  refine F.ok sc_law_sip (fun vs H Q E h => ?_) (fun cdv A outer s H vs Q E hr h => ?_)
  · obtain ⟨c, m, rfl, _⟩ := h
    rfl
  · obtain ⟨c, m, rfl, ⟨x, y, hc, x0, x1, y0⟩, m0, ms, k⟩ := h
    refine ⟨_, (pss_cons (ps_asg (pe_op op_mod (pe_callTy call_int1 (by rfl) T.int_ (by decide +kernel) (pa_cons (pe_op op_add (pe_op op_mul (pe_ix ix_list (pv 0) pe_int (fun _ _ => rfl)) pe_int) pe_int) pa_nil)) pe_int) (pg_sub (pv 0) pe_int set_list))
      (pss_cons (ps_if (pt_cmpR op_gt (pe_ix ix_list (pv 0) pe_int (fun _ _ => rfl)) pe_int (nomark _)) (pss_cons (ps_asg (pe_callB call_divmodW (by rfl) T.divmod (by decide +kernel) (pa_cons (pe_ix ix_list (pv 0) pe_int (fun _ _ => rfl)) (pa_cons (pv 1) pa_nil))) (pg_tup rfl (pgs_cons (pg_sub (pv 0) pe_int set_list) (pgs_cons (pg_name (i := 2) sc_law_sip.nd rfl (.inl rfl)) pgs_nil))))
      (pss_one (ps_ret (pv 2)))) pss_nil)
      (pss_one (ps_ret (pe_op op_mod (pe_callTy call_int1 (by rfl) T.int_ (by decide +kernel) (pa_cons (pe_op op_fdivW (pe_ix ix_list (pv 0) pe_int (fun _ _ => rfl)) pe_int) pa_nil)) (pv 1)))))), ?_⟩
    -- cup[0] = ..
    refine ⟨_, rfl, c, _, _, _, rfl, rfl, SqL.of hc, atI_nat (j := 0) rfl, _, _, rfl, rfl, .inr ⟨by decide, by decide⟩, _, _, rfl, rfl, .inl ⟨_, rfl, _, _, rfl, rfl, (by decide : (0 : Int) < 2147483629), _, rfl, c, _, _, _, rfl, rfl, hc, rfl, ?_⟩⟩
    have z0 : 0 ≤ (x * 48271 + 11) % 2147483629 := Int.emod_nonneg _ (by decide)
    have z1 : (x * 48271 + 11) % 2147483629 < 2147483629 := Int.emod_lt_of_pos _ (by decide)
    have hc1 : (upd H c (HO.lst ([V.int x, V.int y].set 0 (V.int ((x * 48271 + 11) % 2147483629))))) c = some (.lst [.int ((x * 48271 + 11) % 2147483629), .int y]) := upd_same
    have b1 : But c H (upd H c (HO.lst ([V.int x, V.int y].set 0 (V.int ((x * 48271 + 11) % 2147483629))))) := But.upd
    -- if cup[1] > 0
    refine ⟨_, rfl, c, _, _, _, rfl, rfl, SqL.of hc1, atI_nat (j := 1) rfl, _, _, rfl, rfl, _, rfl, ite2 (fun e => ?_) (fun e => ?_)⟩
    · have e0 : 0 < y := of_decide_eq_true e
      refine ⟨_, rfl, c, _, _, _, rfl, rfl, SqL.of hc1, atI_nat (j := 1) rfl, _, rfl, _, _, rfl, ⟨m0, PyProof.noPylong_of_log2 (PySem.Flt.log2_lt_of (by decide) (Nat.lt_of_lt_of_le ms (Nat.pow_le_pow_right (by decide) (by decide : 200 ≤ 9000))))⟩, fun p hp => ?_⟩
      have ncp : c ≠ p := ne_of_none hc1 hp
      have hc2 : (upd (upd H c (HO.lst ([V.int x, V.int y].set 0 (V.int ((x * 48271 + 11) % 2147483629))))) p (HO.tup [V.int (y / m), V.int (y % m)])) c = some (.lst [.int ((x * 48271 + 11) % 2147483629), .int y]) := by
        rw [upd_ne ncp]
        exact hc1
      refine ⟨p, _, rfl, SqT.of upd_same, rfl, _, _, rfl, _, rfl, c, _, _, _, rfl, rfl, hc2, rfl, _, _, rfl, rfl, _, rfl, ?_⟩
      refine k _ _ ?_ ⟨_, y / m, upd_same, z0, z1, Int.ediv_nonneg y0 (by omega)⟩ (Int.emod_nonneg _ (by omega)) (Int.emod_lt_of_pos _ m0)
      exact (b1.trans (But.of (same_upd hp))).trans But.upd
    · refine ⟨_, rfl, c, _, _, _, rfl, rfl, SqL.of hc1, atI_nat (j := 0) rfl, _, _, rfl, rfl, ⟨by decide, by decide⟩, .inl ⟨_, rfl, _, rfl, _, _, rfl, rfl, m0, ?_⟩⟩
      exact k _ _ b1 ⟨_, y, hc1, z0, z1, y0⟩ (Int.emod_nonneg _ (by omega)) (Int.emod_lt_of_pos _ m0)
abbrev s_law_pick : Stmt := top 30
theorem sc_law_pick : FnScope ["_law_cup_here", "_law_things"] ["_law_cup_here", "_law_things"] (defScope s_law_pick) := ⟨rfl, rfl, rfl, by decide +kernel, rfl, by decide +kernel, by decide +kernel⟩

theorem ok_pick {f : Addr} {fd : FuncData} (F : Fun K "_law_pick" "_law_pick" s_law_pick f fd) (T : Txt K mg) (D_law_sip : Df P w K mg base 1 "_law_sip" ["_law_cup_here", "_law_many"] spSip) : FnOk P w K mg base CX0 2 f fd ["_law_cup_here", "_law_things"] spPick := by
  refine F.ok sc_law_pick (fun vs H Q E h => ?_) (fun cdv A outer s H vs Q E hr h => ?_)
  · obtain ⟨c, l, xs, rfl, _⟩ := h
    rfl
  · obtain ⟨c, l, xs, rfl, hc, ncl, hl, l0, l1, k⟩ := h
    refine ⟨_, (pss_one (ps_ret (pe_ix ix_list (pv 1) (pe_df D_law_sip (hr.mono (by decide)) (by rfl) (pa_cons (pv 0) (pa_cons (pe_callB call_len_seq (by rfl) T.len (by decide +kernel) (pa_cons (pv 1) pa_nil)) pa_nil))) (fun _ _ => rfl)))), ?_⟩
    refine ⟨_, rfl, _, rfl, _, rfl, l, _, rfl, .inl (SqL.of hl), c, _, rfl, hc, (by omega), ?_, fun H' r b hc' r0 r1 => ?_⟩
    · unfold Sm
      have : (2 : Nat) ^ 7 ≤ 2 ^ 200 := Nat.pow_le_pow_right (by decide) (by decide)
      have : (2 : Nat) ^ 7 = 128 := by decide
      omega
    · obtain ⟨n, rfl⟩ := Int.eq_ofNat_of_zero_le r0
      have hn : n < xs.length := by omega
      refine ⟨l, xs, _, _, rfl, rfl, SqL.of (b _ _ ncl.symm hl), atI_nat (List.getElem?_eq_getElem hn), ?_⟩
      exact k _ _ b hc' (List.getElem_mem hn)
abbrev s_law_pair : Stmt := top 31
theorem sc_law_pair : FnScope ["_law_top", "_law_bottom", "_law_one", "_law_two"] ["_law_top", "_law_bottom"] (defScope s_law_pair) := ⟨rfl, rfl, rfl, by decide +kernel, rfl, by decide +kernel, by decide +kernel⟩

theorem ok_pair {f : Addr} {fd : FuncData} (F : Fun K "_law_pair" "_law_pair" s_law_pair f fd) (T : Txt K mg) : FnOk P w K mg base CX0 1 f fd ["_law_top", "_law_bottom"] spPair := by
  refine F.ok sc_law_pair (fun vs H Q E h => ?_) (fun cdv A outer s H vs Q E hr h => ?_)
  · obtain ⟨t, b, rfl, _⟩ := h
    rfl
  · obtain ⟨t, b, rfl, t0, b0, ts, bs, k⟩ := h
    refine ⟨_, (pss_cons (ps_par (by rfl) sc_law_pair.nd (i := 2) (j := 3) rfl rfl (by decide) rfl rfl (pa_cons (pv 0) (pa_cons (pv 1) pa_nil)) (by rfl))
      (pss_cons (ps_while PassesOwn.never (pt_cmpR op_gt (pv 3) pe_int (nomark _)) (pss_one (ps_par (by rfl) sc_law_pair.nd (i := 2) (j := 3) rfl rfl (by decide) rfl rfl (pa_cons (pv 3) (pa_cons (pe_op op_mod (pe_callTy call_int1 (by rfl) T.int_ (by decide +kernel) (pa_cons (pv 2) pa_nil)) (pv 3)) pa_nil)) (by rfl))))
      (pss_one (ps_ret (pe_tup (pa_cons (pe_op op_fdivW (pv 0) (pv 2)) (pa_cons (pe_op op_fdivW (pv 1) (pv 2)) pa_nil))))))), ?_⟩
    refine ⟨_, rfl, _, rfl, _, _, rfl, ?_⟩
    refine while_by (fun σ H' => H' = H ∧ ∃ x y : Int, σ = [some (.int t), some (.int b), some (.int x), some (.int y)] ∧ 0 ≤ x ∧ 0 ≤ y ∧ gc x y = gc t b) (fun σ _ => match σ with | [_, _, _, some (.int y)] => y.toNat | _ => 0) ⟨rfl, t, b, rfl, t0, by omega, rfl⟩ ?_ ?_
    · rintro σ H' ⟨rfl, x, y, rfl, x0, y0, eg⟩
      refine ⟨_, rfl, _, _, rfl, rfl, _, rfl, ite2 (fun e => ?_) (fun e => ?_)⟩
      · have e0 : 0 < y := of_decide_eq_true e
        refine ⟨_, rfl, _, rfl, .inl ⟨_, rfl, _, rfl, _, _, rfl, rfl, e0, _, _, rfl, ?_⟩⟩
        have q1 := Int.emod_nonneg x (show y ≠ 0 by omega)
        have q2 := Int.emod_lt_of_pos x e0
        refine ⟨⟨rfl, y, x % y, rfl, y0, q1, ?_⟩, ?_⟩
        · rw [gc_step x0 e0, eg]
        · show (x % y).toNat < y.toNat
          omega
      · have e0 : ¬ 0 < y := fun z => e (decide_eq_true z)
        have y1 : y = 0 := by omega
        subst y1
        rw [gc_zero x0] at eg
        have g0 : 0 < gc t b := gc_pos (.inr (by omega))
        have gb : gc t b ≤ b := Int.le_of_dvd b0 (gc_dvd2 _ _)
        have gs : Sm 4000 x := by
          rw [eg]
          exact bs.of (by omega) gb
        subst eg
        refine ⟨_, rfl, _, rfl, _, _, rfl, rfl, wide_div g0 gs (by decide) (by decide), _, rfl, _, rfl, _, _, rfl, rfl, wide_div g0 gs (by decide) (by decide), (by show 2 ≤ sizeLine; decide), fun p hp => ?_⟩
        exact k _ _ (same_upd hp) hp upd_same
    · rintro σ H' Q1 Q2 hq h
      obtain ⟨v, e1, i, j, e2, e3, z⟩ := h
      exact ⟨v, e1, i, j, e2, e3, z.imp fun k z => ⟨z.1, hq _ _ z.2⟩⟩
end
end RL

namespace RL
open PySem L2
section
variable {P : Program} {w : World} {K : PySem.W.Frag} {mg : Str → Option Value} {base : Heap}
theorem cut2 (xs : List V) : cutV xs none (some 2) = xs.take 2 := by
  unfold cutV
  rw [HT.sIx_none, show HT.sIx xs.length xs.length (some 2) = min 2 xs.length from HT.sIx_nat xs.length xs.length 2]
  rw [Nat.sub_zero, List.drop_zero]
  rcases Nat.le_total 2 xs.length with h | h
  · rw [Nat.min_eq_left h]
  · rw [Nat.min_eq_right h, List.take_length, List.take_of_length_le h]
abbrev s_law_cup : Stmt := top 28
theorem sc_law_cup : FnScope ["_law_script", "_law_spot", "_law_cell", "_law_one"] ["_law_script", "_law_spot"] (defScope s_law_cup) := ⟨rfl, rfl, rfl, by decide +kernel, rfl, by decide +kernel, by decide +kernel⟩

theorem ok_cup {f : Addr} {fd : FuncData} (F : Fun K "_law_cup" "_law_cup" s_law_cup f fd) (T : Txt K mg) : FnOk P w K mg base CX0 1 f fd ["_law_script", "_law_spot"] (spCup K) := by
  refine F.ok sc_law_cup (fun vs H Q E h => ?_) (fun cdv A outer s H vs Q E hr h => ?_)
  · obtain ⟨a, ns, i, rfl, _⟩ := h
    rfl
  · obtain ⟨a, ns, i, rfl, hS, hi, hn, k⟩ := h
    refine ⟨_, (pss_cons (ps_set (i := 2) sc_law_cup.nd rfl (.inl rfl) (pe_ifExp (pt_cmpR op_lt (pv 1) (pe_callB call_len_seq (by rfl) T.len (by decide +kernel) (pa_cons (pv 0) pa_nil)) (nomark _)) (pe_ix ix_list (pv 0) (pv 1) (fun _ _ => rfl)) (pe_op op_add (pe_op op_mul pe_int (pv 1)) pe_int)))
      (pss_cons (ps_for PassesOwn.never rfl (pi_list (pe_ifExp (pt_cmpR op_ge (pv 1) (pe_callB call_len_seq (by rfl) T.len (by decide +kernel) (pa_cons (pv 0) pa_nil)) (nomark _)) (pe_slice sl_list (pv 0) po_none (po_some pe_int)) (pe_lst pa_nil))) (pg_name (i := 3) sc_law_cup.nd rfl (.inl rfl)) (pss_one (ps_set (i := 2) sc_law_cup.nd rfl (.inl rfl) (pe_op op_mod (pe_callTy call_int1 (by rfl) T.int_ (by decide +kernel) (pa_cons (pe_op op_add (pe_op op_mul (pv 2) pe_int) (pv 3)) pa_nil)) pe_int))))
      (pss_one (ps_ret (pe_lst (pa_cons (pe_op op_mod (pe_callTy call_int1 (by rfl) T.int_ (by decide +kernel) (pa_cons (pe_op op_add (pe_op op_add (pe_op op_mul (pv 2) pe_int) (pe_op op_mul pe_int (pv 1))) pe_int) pa_nil)) pe_int) (pa_cons (pe_ifExp (PW.pt (pw_or (pt_cmpR op_lt (pv 2) pe_int (nomark _)) (pw_or1 (pt_cmpR op_ge (pv 2) (pe_op op_pow pe_int pe_int) (nomark _))))) (pe_callB call_abs (by rfl) T.abs (by decide +kernel) (pa_cons (pv 2) pa_nil)) pe_int) pa_nil))))))), ?_⟩
    have hlen : (ns.map V.int).length = ns.length := List.length_map ..
    have isI : ∀ (xs : List Int) (j : Nat) (y : V), (xs.map V.int)[j]? = some y → ∃ u, y = V.int u := fun xs j y hj => by
      rw [List.getElem?_map] at hj
      cases q : xs[j]? with
      | none =>
        rw [q] at hj
        cases hj
      | some u =>
        rw [q] at hj
        exact ⟨u, (Option.some.inj hj).symm⟩
    refine ⟨_, rfl, _, rfl, a, _, rfl, .inl hS, _, _, rfl, rfl, _, rfl, ite2 (fun e => ?_) (fun e => ?_)⟩
    · have e0 : (i : Int) < (ns.map V.int).length := of_decide_eq_true e
      have hin : i < ns.length := by omega
      refine ⟨_, rfl, _, rfl, a, _, _, _, rfl, rfl, hS, atI_nat (v := V.int ns[i]) (by rw [List.getElem?_map, List.getElem?_eq_getElem hin]; rfl), ?_⟩
      refine ⟨_, rfl, _, rfl, a, _, rfl, .inl hS, _, _, rfl, rfl, _, rfl, ite2 (fun e2 => absurd (of_decide_eq_true e2) (by omega)) (fun e2 => ?_)⟩
      refine ⟨Nat.zero_le _, fun l hl0 => ?_⟩
      have sm : Same H (upd H l (.lst [])) := same_upd hl0
      have hl : SqL K (upd H l (.lst [])) l (([] : List Int).map V.int) := SqL.of upd_same
      refine ⟨l, rfl, ⟨_, hl⟩, for_list (K := K) (a := l) (xs := ([] : List Int).map V.int) (fun j σ H' => ∃ (c2 : Int) (v3 : Option V), σ = [some (.ref a), some (.int i), some (.int c2), v3] ∧ H' = upd H l (.lst [])) ⟨ns[i], none, rfl, rfl⟩ (fun _ _ _ _ h => by obtain ⟨_, _, _, rfl⟩ := h; exact hl) ?_ ?_⟩
      · rintro j y σ H' hj ⟨c2, v3, rfl, rfl⟩
        obtain ⟨u, rfl⟩ := isI _ _ _ hj
        refine ⟨_, rfl, _, _, rfl, rfl, .inr ⟨by decide, by decide⟩, _, rfl, _, _, rfl, rfl, .inl ⟨_, rfl, _, _, rfl, rfl, (by decide : (0 : Int) < 1000000007), ?_⟩⟩
        exact ⟨_, _, rfl, rfl⟩
      · rintro σ H' ⟨c2, v3, rfl, rfl⟩
        refine ⟨_, rfl, _, _, rfl, rfl, .inr ⟨by decide, by decide⟩, _, rfl, _, _, rfl, rfl, .inl ⟨by decide, by decide⟩, _, _, rfl, rfl, _, _, rfl, rfl, .inl ⟨_, rfl, _, _, rfl, rfl, (by decide : (0 : Int) < 2147483629), ?_⟩⟩
        have z0 : 0 ≤ (c2 * 4099 + 271 * (i : Int) + 17) % 2147483629 := Int.emod_nonneg _ (by decide)
        have z1 : (c2 * 4099 + 271 * (i : Int) + 17) % 2147483629 < 2147483629 := Int.emod_lt_of_pos _ (by decide)
        refine ⟨_, rfl, _, _, rfl, rfl, _, rfl, ite2 (fun e3 => ?_) (fun e3 => ?_)⟩
        · refine iteT ⟨_, rfl, _, rfl, (by show 2 ≤ sizeLine; decide), fun p hp => ?_⟩
          refine k _ p (sm.trans (same_upd hp)) (sm.free hp) ⟨_, _, upd_same, z0, z1, ?_⟩
          split <;> omega
        · refine ⟨_, rfl, _, _, rfl, rfl, ⟨by decide, by decide, by decide⟩, _, _, rfl, rfl, _, rfl, ite2 (fun e4 => ?_) (fun e4 => ?_)⟩
          · refine ⟨_, rfl, _, rfl, (by show 2 ≤ sizeLine; decide), fun p hp => ?_⟩
            refine k _ p (sm.trans (same_upd hp)) (sm.free hp) ⟨_, _, upd_same, z0, z1, ?_⟩
            split <;> omega
          · refine ⟨(by show 2 ≤ sizeLine; decide), fun p hp => ?_⟩
            exact k _ p (sm.trans (same_upd hp)) (sm.free hp) ⟨_, _, upd_same, z0, z1, by decide⟩
    · have e0 : ¬ (i : Int) < (ns.map V.int).length := fun z => e (decide_eq_true z)
      refine ⟨_, rfl, _, _, rfl, rfl, .inl ⟨by decide, by decide⟩, _, _, rfl, rfl, ?_⟩
      refine ⟨_, rfl, _, rfl, a, _, rfl, .inl hS, _, _, rfl, rfl, _, rfl, ite2 (fun e2 => ?_) (fun e2 => absurd (decide_eq_true (show ((ns.map V.int).length : Int) ≤ (i : Int) by omega)) e2)⟩
      refine ⟨_, rfl, 2, rfl, a, _, rfl, hS, fun l hl0 => ?_⟩
      have sm := same_upd (o := .lst (cutV (ns.map V.int) none (some 2))) hl0
      have hl : SqL K (upd H l (.lst (cutV (ns.map V.int) none (some 2)))) l ((ns.take 2).map V.int) := by
        refine SqL.of ?_
        rw [upd_same, cut2, List.map_take]
      refine ⟨l, rfl, ⟨_, hl⟩, for_list (K := K) (a := l) (xs := (ns.take 2).map V.int) (fun j σ H' => ∃ (c2 : Int) (v3 : Option V), σ = [some (.ref a), some (.int i), some (.int c2), v3] ∧ H' = upd H l (.lst (cutV (ns.map V.int) none (some 2)))) ⟨_, none, rfl, rfl⟩ (fun _ _ _ _ h => by obtain ⟨_, _, _, rfl⟩ := h; exact hl) ?_ ?_⟩
      · rintro j y σ H' hj ⟨c2, v3, rfl, rfl⟩
        obtain ⟨u, rfl⟩ := isI _ _ _ hj
        refine ⟨_, rfl, _, _, rfl, rfl, .inr ⟨by decide, by decide⟩, _, rfl, _, _, rfl, rfl, .inl ⟨_, rfl, _, _, rfl, rfl, (by decide : (0 : Int) < 1000000007), ?_⟩⟩
        exact ⟨_, _, rfl, rfl⟩
      · rintro σ H' ⟨c2, v3, rfl, rfl⟩
        refine ⟨_, rfl, _, _, rfl, rfl, .inr ⟨by decide, by decide⟩, _, rfl, _, _, rfl, rfl, .inl ⟨by decide, by decide⟩, _, _, rfl, rfl, _, _, rfl, rfl, .inl ⟨_, rfl, _, _, rfl, rfl, (by decide : (0 : Int) < 2147483629), ?_⟩⟩
        have z0 : 0 ≤ (c2 * 4099 + 271 * (i : Int) + 17) % 2147483629 := Int.emod_nonneg _ (by decide)
        have z1 : (c2 * 4099 + 271 * (i : Int) + 17) % 2147483629 < 2147483629 := Int.emod_lt_of_pos _ (by decide)
        refine ⟨_, rfl, _, _, rfl, rfl, _, rfl, ite2 (fun e3 => ?_) (fun e3 => ?_)⟩
        · refine iteT ⟨_, rfl, _, rfl, (by show 2 ≤ sizeLine; decide), fun p hp => ?_⟩
          refine k _ p (sm.trans (same_upd hp)) (sm.free hp) ⟨_, _, upd_same, z0, z1, ?_⟩
          split <;> omega
        · refine ⟨_, rfl, _, _, rfl, rfl, ⟨by decide, by decide, by decide⟩, _, _, rfl, rfl, _, rfl, ite2 (fun e4 => ?_) (fun e4 => ?_)⟩
          · refine ⟨_, rfl, _, rfl, (by show 2 ≤ sizeLine; decide), fun p hp => ?_⟩
            refine k _ p (sm.trans (same_upd hp)) (sm.free hp) ⟨_, _, upd_same, z0, z1, ?_⟩
            split <;> omega
          · refine ⟨(by show 2 ≤ sizeLine; decide), fun p hp => ?_⟩
            exact k _ p (sm.trans (same_upd hp)) (sm.free hp) ⟨_, _, upd_same, z0, z1, by decide⟩
end
end RL

namespace RL
open PySem L2
section
variable {P : Program} {w : World} {K : PySem.W.Frag} {mg : Str → Option Value} {base : Heap}
theorem mx {a b : Nat} {i j : Int} (hi : Sm a i) (hj : Sm b j) (h : a + b ≤ 134217728 := by decide) : CMulX i j := mulx_ok hi hj h
theorem dvw {b : Nat} {i j : Int} (h : 0 < j) (hb : Sm b j) (h0 : 0 < b := by decide) (h9 : b ≤ 9000 := by decide) : CDivW i j := wide_div h hb h0 h9
abbrev s_law_ten : Stmt := top 34
theorem sc_law_ten : FnScope ["_law_figures", "_law_found", "_law_turn"] ["_law_figures"] (defScope s_law_ten) := ⟨rfl, rfl, rfl, by decide +kernel, rfl, by decide +kernel, by decide +kernel⟩

theorem ok_ten {f : Addr} {fd : FuncData} (F : Fun K "_law_ten" "_law_ten" s_law_ten f fd) (T : Txt K mg) : FnOk P w K mg base CX0 1 f fd ["_law_figures"] spTen := by
  refine F.ok sc_law_ten (fun vs H Q E h => ?_) (fun cdv A outer s H vs Q E hr h => ?_)
  · obtain ⟨n, rfl, _⟩ := h
    rfl
  · obtain ⟨n, rfl, hn, k⟩ := h
    refine ⟨_, (pss_cons (ps_set (i := 1) sc_law_ten.nd rfl (.inl rfl) pe_int)
      (pss_cons (ps_for PassesOwn.never rfl (pi_range1 rfl T.range (pa_cons (pv 0) pa_nil)) (pg_name (i := 2) sc_law_ten.nd rfl (.inl rfl)) (pss_one (ps_set (i := 1) sc_law_ten.nd rfl (.inl rfl) (pe_op op_mul pe_int (pv 1)))))
      (pss_one (ps_ret (pv 1))))), ?_⟩
    refine ⟨_, rfl, _, rfl, (by omega), (by omega), ?_⟩
    refine for_range (lo := 0) (n := ((n : Nat) : Int).toNat) (fun i σ H' => H' = H ∧ ∃ v, σ = [some (.int n), some (.int (10 ^ i)), v]) ⟨rfl, none, rfl⟩ ?_ ?_
    · rintro i σ H' hi ⟨rfl, v, rfl⟩
      refine ⟨_, rfl, _, _, rfl, rfl, .inl ⟨by decide, by decide⟩, ?_⟩
      have e : (10 : Int) * 10 ^ i = 10 ^ (i + 1) := by rw [Int.pow_succ, Int.mul_comm]
      exact ⟨rfl, some (V.int (0 + i)), by rw [← e]; rfl⟩
    · rintro σ H' ⟨rfl, v, rfl⟩
      refine ⟨_, rfl, ?_⟩
      rw [Int.toNat_natCast]
      exact k
theorem dbl {g w : Int} (h : 0 ≤ w) (l : g * g ≤ w) : g ≤ w := by
  rcases Int.lt_or_le w g with z | z
  · have : g * 1 ≤ g * g := Int.mul_le_mul_of_nonneg_left (by omega) (by omega)
    omega
  · exact z
abbrev s_law_root : Stmt := top 35
theorem sc_law_root : FnScope ["_law_worth", "_law_least", "_law_over", "_law_middle"] ["_law_worth"] (defScope s_law_root) := ⟨rfl, rfl, rfl, by decide +kernel, rfl, by decide +kernel, by decide +kernel⟩

theorem ok_root {f : Addr} {fd : FuncData} (F : Fun K "_law_root" "_law_root" s_law_root f fd) (T : Txt K mg) : FnOk P w K mg base CX0 1 f fd ["_law_worth"] spRoot := by
  refine F.ok sc_law_root (fun vs H Q E h => ?_) (fun cdv A outer s H vs Q E hr h => ?_)
  · obtain ⟨n, rfl, _⟩ := h
    rfl
  · obtain ⟨n, rfl, n0, ns, k⟩ := h
    refine ⟨_, (pss_cons (ps_asg (pe_tup (pa_cons pe_int (pa_cons pe_int pa_nil))) (pg_tup rfl (pgs_cons (pg_name (i := 1) sc_law_root.nd rfl (.inl rfl)) (pgs_cons (pg_name (i := 2) sc_law_root.nd rfl (.inl rfl)) pgs_nil))))
      (pss_cons (ps_while PassesOwn.never (pt_cmpR op_le (pe_op op_mulX (pv 2) (pv 2)) (pv 0) (nomark _)) (pss_one (ps_set (i := 2) sc_law_root.nd rfl (.inl rfl) (pe_op op_mul pe_int (pv 2)))))
      (pss_cons (ps_while PassesOwn.never (pt_cmpR op_gt (pe_op op_sub (pv 2) (pv 1)) pe_int (nomark _)) (pss_cons (ps_set (i := 3) sc_law_root.nd rfl (.inl rfl) (pe_op op_fdivW (pe_op op_add (pv 1) (pv 2)) pe_int))
      (pss_one (ps_if (pt_cmpR op_le (pe_op op_mulX (pv 3) (pv 3)) (pv 0) (nomark _)) (pss_one (ps_set (i := 1) sc_law_root.nd rfl (.inl rfl) (pv 3))) (pss_one (ps_set (i := 2) sc_law_root.nd rfl (.inl rfl) (pv 3)))))))
      (pss_one (ps_ret (pv 1)))))), ?_⟩
    refine ⟨(by show 2 ≤ sizeLine; decide), fun p hp => ⟨p, _, rfl, SqT.of upd_same, rfl, _, _, rfl, _, _, rfl, rfl, ?_⟩⟩
    have sm : Same H (upd H p (.tup [.int 0, .int 1])) := same_upd hp
    refine while_by (fun σ H' => H' = upd H p (.tup [.int 0, .int 1]) ∧ ∃ o : Int, σ = [some (.int n), some (.int 0), some (.int o), none] ∧ 1 ≤ o ∧ o ≤ 2 * n + 1 ∧ Sm 4002 o) (fun σ _ => match σ with | [_, _, some (.int o), _] => (2 * n + 2 - o).toNat | _ => 0) ⟨rfl, 1, rfl, by decide, by omega, ?_⟩ ?_ ?_
    · unfold Sm
      exact Nat.lt_of_lt_of_le (by decide : (1 : Int).natAbs < 2 ^ 1) (Nat.pow_le_pow_right (by decide) (by decide))
    · rintro σ H' ⟨rfl, o, rfl, o1, o2, os⟩
      refine ⟨_, rfl, _, rfl, _, _, rfl, rfl, mx os os, _, rfl, _, _, rfl, rfl, _, rfl, ite2 (fun e => ?_) (fun e => ?_)⟩
      · have e0 : o * o ≤ n := of_decide_eq_true e
        have e1 := dbl n0 e0
        refine ⟨_, rfl, _, _, rfl, rfl, .inl ⟨by decide, by decide⟩, ⟨rfl, _, rfl, by omega, by omega, ?_⟩, ?_⟩
        · have s1 : Sm 4000 o := ns.of (by omega) e1
          exact (Sm.mul (m := 2) (n := 4000) (x := 2) (by unfold Sm; decide) s1).mono (by decide)
        · show (2 * n + 2 - 2 * o).toNat < (2 * n + 2 - o).toNat
          omega
      · have e0 : ¬ o * o ≤ n := fun z => e (decide_eq_true z)
        refine while_by (fun σ H' => H' = upd H p (.tup [.int 0, .int 1]) ∧ ∃ (l o : Int) (v : Option V), σ = [some (.int n), some (.int l), some (.int o), v] ∧ 0 ≤ l ∧ l < o ∧ l * l ≤ n ∧ n < o * o ∧ Sm 4002 o) (fun σ _ => match σ with | [_, some (.int l), some (.int o), _] => (o - l).toNat | _ => 0) ⟨rfl, 0, o, none, rfl, by decide, by omega, by omega, by omega, os⟩ ?_ ?_
        · rintro σ H' ⟨rfl, l, o, v, rfl, l0, lo, hl, ho, os⟩
          refine ⟨_, rfl, _, rfl, _, _, rfl, rfl, _, _, rfl, rfl, _, rfl, ite2 (fun e => ?_) (fun e => ?_)⟩
          · have e0 : 1 < o - l := of_decide_eq_true e
            refine ⟨_, rfl, _, rfl, _, _, rfl, rfl, _, _, rfl, rfl, dvw (b := 3) (by decide) (by unfold Sm; decide), ?_⟩
            have m1 : l < (l + o) / 2 := by omega
            have m2 : (l + o) / 2 < o := by omega
            have ms : Sm 4002 ((l + o) / 2) := os.of (by omega) (by omega)
            refine ⟨_, rfl, _, rfl, _, _, rfl, rfl, mx ms ms, _, rfl, _, _, rfl, rfl, _, rfl, ite2 (fun e3 => ?_) (fun e3 => ?_)⟩
            · have e4 : (l + o) / 2 * ((l + o) / 2) ≤ n := of_decide_eq_true e3
              refine ⟨_, rfl, ⟨rfl, _, _, _, rfl, by omega, m2, e4, ho, os⟩, ?_⟩
              show (o - (l + o) / 2).toNat < (o - l).toNat
              omega
            · have e4 : ¬ (l + o) / 2 * ((l + o) / 2) ≤ n := fun z => e3 (decide_eq_true z)
              refine ⟨_, rfl, ⟨rfl, _, _, _, rfl, l0, m1, hl, by omega, ms⟩, ?_⟩
              show ((l + o) / 2 - l).toNat < (o - l).toNat
              omega
          · have e0 : ¬ 1 < o - l := fun z => e (decide_eq_true z)
            have eo : o = l + 1 := by omega
            subst eo
            refine ⟨_, rfl, ?_⟩
            rw [rt_of ⟨l0, hl, ho⟩]
            exact k _ sm
        · rintro σ H' Q1 Q2 hq h
          obtain ⟨v, e1, v2, e2, i, j, e3, e4, i2, j2, e5, e6, z⟩ := h
          exact ⟨v, e1, v2, e2, i, j, e3, e4, i2, j2, e5, e6, z.imp fun k z => ⟨z.1, hq _ _ z.2⟩⟩
    · rintro σ H' Q1 Q2 hq h
      obtain ⟨v, e1, v2, e2, i, j, e3, e4, cm, v3, e5, i2, j2, e6, e7, z⟩ := h
      exact ⟨v, e1, v2, e2, i, j, e3, e4, cm, v3, e5, i2, j2, e6, e7, z.imp fun k z => ⟨z.1, hq _ _ z.2⟩⟩
theorem pow_up {a b : Nat} (h : a ≤ b) : (2 : Int) ^ a ≤ 2 ^ b := by
  have := Nat.pow_le_pow_right (n := 2) (by decide) h
  have e : ∀ k : Nat, ((2 ^ k : Nat) : Int) = 2 ^ k := fun k => by rw [Int.natCast_pow]; rfl
  rw [← e, ← e]
  omega
theorem bits_lt {n : Int} (h : 0 ≤ n) : n < 2 ^ (Builtin.Int.intBits n) := by
  unfold Builtin.Int.intBits
  by_cases z : n = 0
  · subst z
    decide
  · rw [if_neg (by simpa using z)]
    have := Nat.lt_log2_self (n := n.natAbs)
    have e : ((2 ^ (n.natAbs.log2 + 1) : Nat) : Int) = 2 ^ (n.natAbs.log2 + 1) := by rw [Int.natCast_pow]; rfl
    rw [← e]
    omega
theorem bits_le {n : Int} {m : Nat} (h : Sm m n) : Builtin.Int.intBits n ≤ m := PyProof.Rows.intBits_le h
abbrev s_square_root : Stmt := top 13
theorem sc_square_root : FnScope ["number", "guess"] ["number"] (defScope s_square_root) := ⟨rfl, rfl, rfl, by decide +kernel, rfl, by decide +kernel, by decide +kernel⟩

theorem ok_sqrt {f : Addr} {fd : FuncData} (F : Fun K "square_root" "square_root" s_square_root f fd) : FnOk P w K mg base CX0 1 f fd ["number"] spRoot := by
  refine F.ok sc_square_root (fun vs H Q E h => ?_) (fun cdv A outer s H vs Q E hr h => ?_)
  · obtain ⟨n, rfl, _⟩ := h
    rfl
  · obtain ⟨n, rfl, n0, ns, k⟩ := h
    refine ⟨_, (pss_cons (ps_set (i := 1) sc_square_root.nd rfl (.inl rfl) (pe_op op_oneShl pe_int (pe_op op_fdivW (pe_op op_add (pe_bits (pv 0)) pe_int) pe_int)))
      (pss_cons (ps_while PassesOwn.never (pt_cmpR op_gt (pe_op op_mulX (pv 1) (pv 1)) (pv 0) (nomark _)) (pss_one (ps_set (i := 1) sc_square_root.nd rfl (.inl rfl) (pe_op op_fdivW (pe_op op_add (pv 1) (pe_op op_fdivW (pv 0) (pv 1))) pe_int))))
      (pss_one (ps_ret (pv 1))))), ?_⟩
    have hb := bits_le ns
    have hl := bits_lt n0
    refine ⟨_, rfl, n, rfl, _, _, rfl, rfl, _, _, rfl, rfl, dvw (b := 3) (by decide) (by unfold Sm; decide), ?_⟩
    have ek : ((Builtin.Int.intBits n : Nat) + 1 : Int) / 2 = (((Builtin.Int.intBits n + 1) / 2 : Nat) : Int) := by omega
    generalize Builtin.Int.intBits n = b at *
    refine ⟨(b + 1) / 2, rfl, congrArg V.int ek, (by omega), ?_⟩
    have ks : (b + 1) / 2 ≤ 2000 := by omega
    have kb : b ≤ (b + 1) / 2 + (b + 1) / 2 := by omega
    generalize (b + 1) / 2 = q at *
    have p0 : (0 : Int) < 2 ^ q := Int.pow_pos (by decide)
    have hp : n < 2 ^ q * 2 ^ q := by
      rw [← Int.pow_add]
      exact Int.lt_of_lt_of_le hl (pow_up kb)
    have gs : Sm 2001 (2 ^ q) := by
      unfold Sm
      rw [Int.natAbs_pow]
      exact Nat.pow_lt_pow_right (by decide) (by omega)
    refine while_by (fun σ H' => H' = H ∧ ∃ g : Int, σ = [some (.int n), some (.int g)] ∧ 0 ≤ g ∧ n < (g + 1) * (g + 1) ∧ Sm 2001 g) (fun σ _ => match σ with | [_, some (.int g)] => g.toNat | _ => 0) ⟨rfl, 2 ^ q, rfl, by omega, ?_, gs⟩ ?_ ?_
    · have e : ((2 : Int) ^ q + 1) * (2 ^ q + 1) = 2 ^ q * 2 ^ q + 2 * 2 ^ q + 1 := by
        generalize (2 : Int) ^ q = u
        grind
      omega
    · rintro σ H' ⟨rfl, g, rfl, g0, g1, gs⟩
      refine ⟨_, rfl, _, rfl, _, _, rfl, rfl, mx gs gs, _, rfl, _, _, rfl, rfl, _, rfl, ite2 (fun e => ?_) (fun e => ?_)⟩
      · have e0 : n < g * g := of_decide_eq_true e
        obtain ⟨h1, h2, h3, h4⟩ := newton n0 g0 g1 e0
        refine ⟨_, rfl, _, rfl, _, rfl, _, _, rfl, rfl, dvw h1 gs, _, _, rfl, rfl, _, _, rfl, rfl, dvw (b := 3) (by decide) (by unfold Sm; decide), ⟨rfl, _, rfl, h2, h4, gs.of (by omega) (by omega)⟩, ?_⟩
        show ((g + n / g) / 2).toNat < g.toNat
        omega
      · have e0 : ¬ n < g * g := fun z => e (decide_eq_true z)
        refine ⟨_, rfl, ?_⟩
        rw [rt_of ⟨g0, by omega, g1⟩]
        exact k _ (Same.refl _)
    · rintro σ H' Q1 Q2 hq h
      obtain ⟨v, e1, v2, e2, i, j, e3, e4, cm, v3, e5, i2, j2, e6, e7, z⟩ := h
      exact ⟨v, e1, v2, e2, i, j, e3, e4, cm, v3, e5, i2, j2, e6, e7, z.imp fun k z => ⟨z.1, hq _ _ z.2⟩⟩
end
end RL

namespace RL
open PySem L2
structure Txt2 (K : PySem.W.Frag) (mg : Str → Option Value) (tG tP : Tok) (aO C : Addr) : Prop extends Txt K mg where
  mgG : mg "GREATEST" = some (.int 1000000000000 tG)
  mgP : mg "GREATEST_PART" = some (.int 10000000000000000000000000000000000000000 tP)
  mgO : mg "OPEN" = some (.ref aO)
  opn : ∃ (o : Obj) (its : Array Value) (n : Nat), K.lookup aO = some o ∧ o.cls = .type "tuple" ∧ o.data = .seq its n ∧ its.size ≤ sizeLine ∧ Vals [.int 1, .int 0] its.toList
  mgC : mg "Exact" = some (.ref C)
  cl : Cls K C
  nP : NoAttr K C "parts"
/-- a resistance's two integers -/
def ResP (t b : Int) : Prop := (0 ≤ t ∧ t ≤ 1000000000000 ∧ 1 ≤ b ∧ b ≤ 1000000000000) ∨ (t = 1 ∧ b = 0)
def spIsInt : Sp := fun vs H Q _ => (∃ i, vs = [.int i] ∧ Q (.bl true) H) ∨ (∃ p xs, vs = [.ref p] ∧ H p = some (.tup xs) ∧ Q (.bl false) H)
def spWithin : Sp := fun vs H Q _ => ∃ v lo hi : Int, vs = [.int v, .int lo, .int hi] ∧ lo ≤ v ∧ v ≤ hi ∧ Q (.bl true) H
def spIsPair : Sp := fun vs H Q _ => ∃ (p : Addr) (t b : Int), vs = [.ref p] ∧ H p = some (.tup [.int t, .int b]) ∧ Q (.bl true) H
def spIsRes : Sp := fun vs H Q _ => (∃ i : Int, vs = [.int i] ∧ 0 ≤ i ∧ i ≤ 1000000000000 ∧ Q (.bl true) H) ∨ (∃ (p : Addr) (t b : Int), vs = [.ref p] ∧ H p = some (.tup [.int t, .int b]) ∧ ResP t b ∧ Q (.bl true) H)
def spPairOf : Sp := fun vs H Q _ => (∃ i, vs = [.int i] ∧ ∀ H' p, Same H H' → H p = none → H' p = some (.tup [.int i, .int 1]) → Q (.ref p) H') ∨ (∃ p xs, vs = [.ref p] ∧ H p = some (.tup xs) ∧ Q (.ref p) H)
def spGcd : Sp := fun vs H Q _ => ∃ x y : Int, vs = [.int x, .int y] ∧ Q (.int (gc x y)) H
def spLow : Sp := fun vs H Q _ => ∃ (t b : Int), vs = [.int t, .int b] ∧ 0 < b ∧ Sm 4000 b ∧
  ∀ H' p, Same H H' → H p = none → H' p = some (.tup [.int (t / gc t b), .int (b / gc t b)]) → Q (.ref p) H'
def spSign : Sp := fun vs H Q _ => ∃ n : Int, vs = [.int n] ∧ Q (.int (sg n)) H
def spUnder : Sp := fun vs H Q _ => ∃ s l w : Int, vs = [.int s, .int l, .int w] ∧ Sm 1000 s ∧ Sm 1000 l ∧ Sm 1000 w ∧ Q (.int (l * l + 4 * s * w)) H
def spEqF : Sp := fun vs H Q _ => ∃ (t b : Int), vs = [.int t, .int b] ∧ 0 < b ∧ Sm 4000 b ∧
  ∀ H' p, Same H H' → H p = none → H' p = some (.tup [.int 0, .int (b / gc t b), .int (t / gc t b)]) → Q (.ref p) H'
def spSimp : Sp := fun vs H Q _ => ∃ a b c : Int, vs = [.int a, .int b, .int c] ∧ Good a b c ∧ Sm 133 a ∧ Sm 133 b ∧ Sm 133 c ∧
  ∀ H' p, Same H H' → H p = none → H' p = some (.tup [.int (parts a b c).1, .int (parts a b c).2.1, .int (parts a b c).2.2]) → Q (.ref p) H'
def spBeside : Sp := fun vs H Q _ => ∃ (p : Addr) (s l w x y : Int), vs = [.ref p, .int x, .int y] ∧ H p = some (.tup [.int s, .int l, .int w]) ∧ Sm 1000 s ∧ Sm 1000 l ∧ Sm 1000 w ∧ Sm 1000 x ∧ Sm 1000 y ∧ Q (.int (beside s l w x y)) H
section
variable {P : Program} {w : World} {K : PySem.W.Frag} {mg : Str → Option Value} {base : Heap} {tG tP : Tok} {aO C : Addr}
abbrev s_is_integer : Stmt := top 4
theorem sc_is_integer : FnScope ["value"] ["value"] (defScope s_is_integer) := ⟨rfl, rfl, rfl, by decide +kernel, rfl, by decide +kernel, by decide +kernel⟩

theorem ok_isint {f : Addr} {fd : FuncData} (F : Fun K "is_integer" "is_integer" s_is_integer f fd) (T : Txt K mg) : FnOk P w K mg base CX0 1 f fd ["value"] spIsInt := by
  refine F.ok sc_is_integer (fun vs H Q E h => ?_) (fun cdv A outer s H vs Q E hr h => ?_)
  · rcases h with ⟨i, rfl, _⟩ | ⟨p, xs, rfl, _⟩ <;> rfl
  · refine ⟨_, (pss_one (ps_ret (pe_and (pe_callB call_isi (by rfl) T.isinstance (by decide +kernel) (pa_cons (pv 0) (pa_cons (pe_bltn (v := .ty "int") (by rfl) T.int_ (by decide +kernel) rfl) pa_nil))) (pe_one (pe_not (pe_callB call_isi (by rfl) T.isinstance (by decide +kernel) (pa_cons (pv 0) (pa_cons (pe_bltn (v := .ty "bool") (by rfl) T.bool_ (by decide +kernel) rfl) pa_nil)))))))), ?_⟩
    rcases h with ⟨i, rfl, k⟩ | ⟨p, xs, rfl, hp, k⟩
    · refine ⟨_, rfl, _, _, _, _, true, rfl, .ty _, .base (.int i), kit_ty (by decide +kernel), true, rfl, iteT ?_⟩
      exact ⟨_, rfl, _, _, _, _, false, rfl, .ty _, .base (.int i), kit_ty (by decide +kernel), false, rfl, k⟩
    · refine ⟨_, rfl, _, _, _, _, false, rfl, .ty _, .base (.tup hp), kit_ty (by decide +kernel), false, rfl, iteF ?_⟩
      exact k
abbrev s_is_integer_within : Stmt := top 5
theorem sc_is_integer_within : FnScope ["value", "least", "most"] ["value", "least", "most"] (defScope s_is_integer_within) := ⟨rfl, rfl, rfl, by decide +kernel, rfl, by decide +kernel, by decide +kernel⟩

theorem ok_within {f : Addr} {fd : FuncData} (F : Fun K "is_integer_within" "is_integer_within" s_is_integer_within f fd) (D_is_integer : Df P w K mg base 1 "is_integer" ["value"] spIsInt) : FnOk P w K mg base CX0 2 f fd ["value", "least", "most"] spWithin := by
  refine F.ok sc_is_integer_within (fun vs H Q E h => ?_) (fun cdv A outer s H vs Q E hr h => ?_)
  · obtain ⟨v, lo, hi, rfl, _⟩ := h
    rfl
  · obtain ⟨v, lo, hi, rfl, h1, h2, k⟩ := h
    refine ⟨_, (pss_one (ps_ret (pe_and (pe_df D_is_integer (hr.mono (by decide)) (by rfl) (pa_cons (pv 0) pa_nil)) (pe_one (pe_chain op_le op_le (pv 1) (pv 0) (pv 2)))))), ?_⟩
    refine ⟨_, rfl, .inl ⟨v, rfl, true, rfl, iteT ?_⟩⟩
    refine ⟨_, rfl, _, rfl, _, _, rfl, rfl, _, rfl, ite2 (fun _ => ?_) (fun e => absurd (decide_eq_true h1) e)⟩
    refine ⟨_, rfl, _, _, rfl, rfl, ?_⟩
    show Q (.bl (decide (v ≤ hi))) H
    rw [decide_eq_true h2]
    exact k
abbrev s_is_pair_of_integers : Stmt := top 6
theorem sc_is_pair_of_integers : FnScope ["value"] ["value"] (defScope s_is_pair_of_integers) := ⟨rfl, rfl, rfl, by decide +kernel, rfl, by decide +kernel, by decide +kernel⟩

theorem ok_ispair {f : Addr} {fd : FuncData} (F : Fun K "is_pair_of_integers" "is_pair_of_integers" s_is_pair_of_integers f fd) (T : Txt K mg) (D_is_integer : Df P w K mg base 1 "is_integer" ["value"] spIsInt) : FnOk P w K mg base CX0 2 f fd ["value"] spIsPair := by
  refine F.ok sc_is_pair_of_integers (fun vs H Q E h => ?_) (fun cdv A outer s H vs Q E hr h => ?_)
  · obtain ⟨p, t, b, rfl, _⟩ := h
    rfl
  · obtain ⟨p, t, b, rfl, hp, k⟩ := h
    refine ⟨_, (pss_one (ps_ret (pe_and (pe_callB call_isi (by rfl) T.isinstance (by decide +kernel) (pa_cons (pv 0) (pa_cons (pe_bltn (v := .ty "tuple") (by rfl) T.tuple_ (by decide +kernel) rfl) pa_nil))) (pe_and (pe_cmpR op_eq (pe_callB call_len_seq (by rfl) T.len (by decide +kernel) (pa_cons (pv 0) pa_nil)) pe_int (nomark _)) (pe_and (pe_df D_is_integer (hr.mono (by decide)) (by rfl) (pa_cons (pe_ix ix_tup (pv 0) pe_int (fun _ _ => rfl)) pa_nil)) (pe_one (pe_df D_is_integer (hr.mono (by decide)) (by rfl) (pa_cons (pe_ix ix_tup (pv 0) pe_int (fun _ _ => rfl)) pa_nil)))))))), ?_⟩
    refine ⟨_, rfl, _, _, _, _, true, rfl, .ty _, .base (.tup hp), kit_ty (by decide +kernel), true, rfl, iteT ?_⟩
    refine ⟨_, rfl, p, _, rfl, .inr (SqT.of hp), rfl, true, rfl, iteT ?_⟩
    refine ⟨_, rfl, p, _, _, _, rfl, rfl, SqT.of hp, atI_nat (j := 0) rfl, .inl ⟨t, rfl, true, rfl, iteT ?_⟩⟩
    exact ⟨_, rfl, p, _, _, _, rfl, rfl, SqT.of hp, atI_nat (j := 1) rfl, .inl ⟨b, rfl, k⟩⟩
abbrev s_is_resistance : Stmt := top 7
theorem sc_is_resistance : FnScope ["value", "top", "bottom"] ["value"] (defScope s_is_resistance) := ⟨rfl, rfl, rfl, by decide +kernel, rfl, by decide +kernel, by decide +kernel⟩

theorem ok_isres {f : Addr} {fd : FuncData} (F : Fun K "is_resistance" "is_resistance" s_is_resistance f fd) (T : Txt2 K mg tG tP aO C) (D_is_integer : Df P w K mg base 1 "is_integer" ["value"] spIsInt) (D_is_pair_of_integers : Df P w K mg base 2 "is_pair_of_integers" ["value"] spIsPair) : FnOk P w K mg base CX0 3 f fd ["value"] spIsRes := by
  refine F.ok sc_is_resistance (fun vs H Q E h => ?_) (fun cdv A outer s H vs Q E hr h => ?_)
  · rcases h with ⟨i, rfl, _⟩ | ⟨p, t, b, rfl, _⟩ <;> rfl
  · refine ⟨_, (pss_cons (ps_if (pt_val (pe_df D_is_integer (hr.mono (by decide)) (by rfl) (pa_cons (pv 0) pa_nil))) (pss_one (ps_ret (pe_chain op_le op_le pe_int (pv 0) (pe_glob (v := .int 1000000000000) rfl T.mgG ⟨_, rfl⟩)))) pss_nil)
      (pss_cons (ps_if (pt_not (pt_val (pe_df D_is_pair_of_integers (hr.mono (by decide)) (by rfl) (pa_cons (pv 0) pa_nil)))) (pss_one (ps_ret pe_bl)) pss_nil)
      (pss_cons (ps_asg (pv 0) (pg_tup rfl (pgs_cons (pg_name (i := 1) sc_is_resistance.nd rfl (.inl rfl)) (pgs_cons (pg_name (i := 2) sc_is_resistance.nd rfl (.inl rfl)) pgs_nil))))
      (pss_one (ps_ret (pe_or (pe_cmpR (op_eqD hr.units) (pv 0) (pe_glob (v := .ref aO) rfl T.mgO rfl) (nomark _)) (pe_one (pe_and (pe_chain op_le op_le pe_int (pv 1) (pe_glob (v := .int 1000000000000) rfl T.mgG ⟨_, rfl⟩)) (pe_one (pe_chain op_le op_le pe_int (pv 2) (pe_glob (v := .int 1000000000000) rfl T.mgG ⟨_, rfl⟩))))))))))), ?_⟩
    rcases h with ⟨i, rfl, i0, i1, k⟩ | ⟨p, t, b, rfl, hp, hR, k⟩
    · refine ⟨_, rfl, .inl ⟨i, rfl, true, rfl, iteT ?_⟩⟩
      refine ⟨_, rfl, _, _, rfl, rfl, _, rfl, ite2 (fun _ => ?_) (fun e => absurd (decide_eq_true i0) e)⟩
      refine ⟨_, _, rfl, rfl, ?_⟩
      show Q (.bl (decide (i ≤ 1000000000000))) H
      rw [decide_eq_true i1]
      exact k
    · refine ⟨_, rfl, .inr ⟨p, _, rfl, hp, false, rfl, iteF ?_⟩⟩
      refine ⟨_, rfl, p, t, b, rfl, hp, true, rfl, iteF ?_⟩
      refine ⟨_, rfl, p, _, rfl, SqT.of hp, rfl, _, _, rfl, _, _, rfl, rfl, ?_⟩
      refine ⟨_, rfl, .tuple [.int t, .int b], .tuple [.int 1, .int 0], .tup (SqT.of hp) (.cons (.int _) (.cons (.int _) .nil)), .tup (.inr T.opn) (.cons (.int _) (.cons (.int _) .nil)), rfl, rfl, _, rfl, ite2 (fun _ => k) (fun e => ?_)⟩
      rcases hR with ⟨t0, t1, b0, b1⟩ | ⟨rfl, rfl⟩
      · refine ⟨_, rfl, _, _, rfl, rfl, _, rfl, ite2 (fun _ => ?_) (fun e => absurd (decide_eq_true t0) e)⟩
        refine ⟨_, _, rfl, rfl, _, rfl, ite2 (fun _ => ?_) (fun e => absurd (decide_eq_true t1) e)⟩
        refine ⟨_, rfl, _, _, rfl, rfl, _, rfl, ite2 (fun _ => ?_) (fun e => absurd (decide_eq_true b0) e)⟩
        refine ⟨_, _, rfl, rfl, ?_⟩
        show Q (.bl (decide (b ≤ 1000000000000))) H
        rw [decide_eq_true b1]
        exact k
      · exact absurd (SeqAt.eqv_refl _ (by decide +kernel)) e
abbrev s_pair_of : Stmt := top 8
theorem sc_pair_of : FnScope ["fraction_or_open"] ["fraction_or_open"] (defScope s_pair_of) := ⟨rfl, rfl, rfl, by decide +kernel, rfl, by decide +kernel, by decide +kernel⟩

theorem ok_pairof {f : Addr} {fd : FuncData} (F : Fun K "pair_of" "pair_of" s_pair_of f fd) (D_is_integer : Df P w K mg base 1 "is_integer" ["value"] spIsInt) : FnOk P w K mg base CX0 2 f fd ["fraction_or_open"] spPairOf := by
  refine F.ok sc_pair_of (fun vs H Q E h => ?_) (fun cdv A outer s H vs Q E hr h => ?_)
  · rcases h with ⟨i, rfl, _⟩ | ⟨p, xs, rfl, _⟩ <;> rfl
  · refine ⟨_, (pss_cons (ps_if (pt_val (pe_df D_is_integer (hr.mono (by decide)) (by rfl) (pa_cons (pv 0) pa_nil))) (pss_one (ps_ret (pe_tup (pa_cons (pv 0) (pa_cons pe_int pa_nil))))) pss_nil)
      (pss_one (ps_ret (pv 0)))), ?_⟩
    rcases h with ⟨i, rfl, k⟩ | ⟨p, xs, rfl, hp, k⟩
    · refine ⟨_, rfl, .inl ⟨i, rfl, true, rfl, iteT ?_⟩⟩
      exact ⟨_, rfl, (by show 2 ≤ sizeLine; decide), fun q hq => k _ q (same_upd hq) hq upd_same⟩
    · refine ⟨_, rfl, .inr ⟨p, _, rfl, hp, false, rfl, iteF ?_⟩⟩
      exact ⟨_, rfl, k⟩
abbrev s_common_divisor : Stmt := top 9
theorem sc_common_divisor : FnScope ["first", "second", "high", "low"] ["first", "second"] (defScope s_common_divisor) := ⟨rfl, rfl, rfl, by decide +kernel, rfl, by decide +kernel, by decide +kernel⟩

theorem ok_gcd {f : Addr} {fd : FuncData} (F : Fun K "common_divisor" "common_divisor" s_common_divisor f fd) (T : Txt K mg) : FnOk P w K mg base CX0 1 f fd ["first", "second"] spGcd := by
  refine F.ok sc_common_divisor (fun vs H Q E h => ?_) (fun cdv A outer s H vs Q E hr h => ?_)
  · obtain ⟨t, b, rfl, _⟩ := h
    rfl
  · obtain ⟨t, b, rfl, k⟩ := h
    refine ⟨_, (pss_cons (ps_par (by rfl) sc_common_divisor.nd (i := 2) (j := 3) rfl rfl (by decide) rfl rfl (pa_cons (pe_callB call_abs (by rfl) T.abs (by decide +kernel) (pa_cons (pv 0) pa_nil)) (pa_cons (pe_callB call_abs (by rfl) T.abs (by decide +kernel) (pa_cons (pv 1) pa_nil)) pa_nil)) (by rfl))
      (pss_cons (ps_while PassesOwn.never (pt_cmpR op_gt (pv 3) pe_int (nomark _)) (pss_one (ps_par (by rfl) sc_common_divisor.nd (i := 2) (j := 3) rfl rfl (by decide) rfl rfl (pa_cons (pv 3) (pa_cons (pe_op op_mod (pv 2) (pv 3)) pa_nil)) (by rfl))))
      (pss_one (ps_ret (pv 2))))), ?_⟩
    refine ⟨_, rfl, _, rfl, _, rfl, _, rfl, _, _, rfl, ?_⟩
    refine while_by (fun σ H' => H' = H ∧ ∃ x y : Int, σ = [some (.int t), some (.int b), some (.int x), some (.int y)] ∧ 0 ≤ x ∧ 0 ≤ y ∧ gc x y = gc t b) (fun σ _ => match σ with | [_, _, _, some (.int y)] => y.toNat | _ => 0) ⟨rfl, _, _, rfl, by split <;> omega, by split <;> omega, gc_abs _ _⟩ ?_ ?_
    · rintro σ H' ⟨rfl, x, y, rfl, x0, y0, eg⟩
      refine ⟨_, rfl, _, _, rfl, rfl, _, rfl, ite2 (fun e => ?_) (fun e => ?_)⟩
      · have e0 : 0 < y := of_decide_eq_true e
        refine ⟨_, rfl, _, rfl, _, rfl, _, _, rfl, rfl, e0, _, _, rfl, ?_⟩
        have q1 := Int.emod_nonneg x (show y ≠ 0 by omega)
        have q2 := Int.emod_lt_of_pos x e0
        refine ⟨⟨rfl, y, x % y, rfl, y0, q1, ?_⟩, ?_⟩
        · rw [gc_step x0 e0, eg]
        · show (x % y).toNat < y.toNat
          omega
      · have e0 : ¬ 0 < y := fun z => e (decide_eq_true z)
        have y1 : y = 0 := by omega
        subst y1
        rw [gc_zero x0] at eg
        subst eg
        exact ⟨_, rfl, k⟩
    · rintro σ H' Q1 Q2 hq h
      obtain ⟨v, e1, i, j, e2, e3, z⟩ := h
      exact ⟨v, e1, i, j, e2, e3, z.imp fun k z => ⟨z.1, hq _ _ z.2⟩⟩
abbrev s_lowest_terms : Stmt := top 10
theorem sc_lowest_terms : FnScope ["top", "bottom", "divisor"] ["top", "bottom"] (defScope s_lowest_terms) := ⟨rfl, rfl, rfl, by decide +kernel, rfl, by decide +kernel, by decide +kernel⟩

theorem ok_low {f : Addr} {fd : FuncData} (F : Fun K "lowest_terms" "lowest_terms" s_lowest_terms f fd) (D_common_divisor : Df P w K mg base 1 "common_divisor" ["first", "second"] spGcd) : FnOk P w K mg base CX0 2 f fd ["top", "bottom"] spLow := by
  refine F.ok sc_lowest_terms (fun vs H Q E h => ?_) (fun cdv A outer s H vs Q E hr h => ?_)
  · obtain ⟨t, b, rfl, _⟩ := h
    rfl
  · obtain ⟨t, b, rfl, b0, bs, k⟩ := h
    refine ⟨_, (pss_cons (ps_set (i := 2) sc_lowest_terms.nd rfl (.inl rfl) (pe_df D_common_divisor (hr.mono (by decide)) (by rfl) (pa_cons (pv 0) (pa_cons (pv 1) pa_nil))))
      (pss_one (ps_ret (pe_tup (pa_cons (pe_op op_fdivW (pv 0) (pv 2)) (pa_cons (pe_op op_fdivW (pv 1) (pv 2)) pa_nil)))))), ?_⟩
    have g0 : 0 < gc t b := gc_pos (.inr (by omega))
    have gb : gc t b ≤ b := Int.le_of_dvd b0 (gc_dvd2 _ _)
    have gs : Sm 4000 (gc t b) := bs.of (by omega) gb
    refine ⟨_, rfl, _, rfl, t, b, rfl, ?_⟩
    refine ⟨_, rfl, _, rfl, _, _, rfl, rfl, dvw g0 gs, _, rfl, _, rfl, _, _, rfl, rfl, dvw g0 gs, (by show 2 ≤ sizeLine; decide), fun p hp => ?_⟩
    exact k _ _ (same_upd hp) hp upd_same
abbrev s_sign : Stmt := top 12
theorem sc_sign : FnScope ["number"] ["number"] (defScope s_sign) := ⟨rfl, rfl, rfl, by decide +kernel, rfl, by decide +kernel, by decide +kernel⟩

theorem ok_sign {f : Addr} {fd : FuncData} (F : Fun K "sign" "sign" s_sign f fd) : FnOk P w K mg base CX0 1 f fd ["number"] spSign := by
  refine F.ok sc_sign (fun vs H Q E h => ?_) (fun cdv A outer s H vs Q E hr h => ?_)
  · obtain ⟨n, rfl, _⟩ := h
    rfl
  · obtain ⟨n, rfl, k⟩ := h
    refine ⟨_, (pss_cons (ps_if (pt_cmpR op_gt (pv 0) pe_int (nomark _)) (pss_one (ps_ret pe_int)) pss_nil)
      (pss_cons (ps_if (pt_cmpR op_lt (pv 0) pe_int (nomark _)) (pss_one (ps_ret (pe_un un_neg pe_int))) pss_nil)
      (pss_one (ps_ret pe_int)))), ?_⟩
    unfold sg at k
    refine ⟨_, rfl, _, _, rfl, rfl, _, rfl, ite2 (fun e => ?_) (fun e => ?_)⟩
    · rw [if_pos (show 0 < n from of_decide_eq_true e)] at k
      exact k
    · rw [if_neg (show ¬ 0 < n from fun z => e (decide_eq_true z))] at k
      refine ⟨_, rfl, _, _, rfl, rfl, _, rfl, ite2 (fun e2 => ?_) (fun e2 => ?_)⟩
      · rw [if_pos (show n < 0 from of_decide_eq_true e2)] at k
        exact ⟨1, rfl, k⟩
      · rw [if_neg (show ¬ n < 0 from fun z => e2 (decide_eq_true z))] at k
        exact k
abbrev s_under_root : Stmt := top 21
theorem sc_under_root : FnScope ["square", "line", "whole"] ["square", "line", "whole"] (defScope s_under_root) := ⟨rfl, rfl, rfl, by decide +kernel, rfl, by decide +kernel, by decide +kernel⟩

theorem ok_under {f : Addr} {fd : FuncData} (F : Fun K "under_root" "under_root" s_under_root f fd) : FnOk P w K mg base CX0 1 f fd ["square", "line", "whole"] spUnder := by
  refine F.ok sc_under_root (fun vs H Q E h => ?_) (fun cdv A outer s H vs Q E hr h => ?_)
  · obtain ⟨a, b, c, rfl, _⟩ := h
    rfl
  · obtain ⟨a, b, c, rfl, ha, hb, hc, k⟩ := h
    refine ⟨_, (pss_one (ps_ret (pe_op op_add (pe_op op_mulX (pv 1) (pv 1)) (pe_op op_mulX (pe_op op_mul pe_int (pv 0)) (pv 2))))), ?_⟩
    have h4 : Sm 1003 (4 * a) := Sm.mul (m := 3) (n := 1000) (x := 4) (by unfold Sm; decide) ha
    exact ⟨_, rfl, _, rfl, _, _, rfl, rfl, mx hb hb, _, rfl, _, _, rfl, rfl, .inl ⟨by decide, by decide⟩, _, rfl, _, _, rfl, rfl, mx h4 hc, _, _, rfl, rfl, k⟩
abbrev s_equation_of_fraction : Stmt := top 23
theorem sc_equation_of_fraction : FnScope ["top", "bottom", "top_part", "bottom_part"] ["top", "bottom"] (defScope s_equation_of_fraction) := ⟨rfl, rfl, rfl, by decide +kernel, rfl, by decide +kernel, by decide +kernel⟩

theorem ok_eqf {f : Addr} {fd : FuncData} (F : Fun K "equation_of_fraction" "equation_of_fraction" s_equation_of_fraction f fd) (D_lowest_terms : Df P w K mg base 2 "lowest_terms" ["top", "bottom"] spLow) : FnOk P w K mg base CX0 3 f fd ["top", "bottom"] spEqF := by
  refine F.ok sc_equation_of_fraction (fun vs H Q E h => ?_) (fun cdv A outer s H vs Q E hr h => ?_)
  · obtain ⟨t, b, rfl, _⟩ := h
    rfl
  · obtain ⟨t, b, rfl, b0, bs, k⟩ := h
    refine ⟨_, (pss_cons (ps_asg (pe_df D_lowest_terms (hr.mono (by decide)) (by rfl) (pa_cons (pv 0) (pa_cons (pv 1) pa_nil))) (pg_tup rfl (pgs_cons (pg_name (i := 2) sc_equation_of_fraction.nd rfl (.inl rfl)) (pgs_cons (pg_name (i := 3) sc_equation_of_fraction.nd rfl (.inl rfl)) pgs_nil))))
      (pss_one (ps_ret (pe_tup (pa_cons pe_int (pa_cons (pv 3) (pa_cons (pv 2) pa_nil))))))), ?_⟩
    refine ⟨_, rfl, _, rfl, t, b, rfl, b0, bs, fun H1 p sm np hp => ?_⟩
    refine ⟨p, _, rfl, SqT.of hp, rfl, _, _, rfl, _, _, rfl, rfl, ?_⟩
    exact ⟨_, rfl, _, rfl, (by show 3 ≤ sizeLine; decide), fun q hq => k _ q (sm.trans (same_upd hq)) (sm.free hq) upd_same⟩
abbrev s_beside_fraction : Stmt := top 25
theorem sc_beside_fraction : FnScope ["parts", "top", "bottom", "square", "line", "whole"] ["parts", "top", "bottom"] (defScope s_beside_fraction) := ⟨rfl, rfl, rfl, by decide +kernel, rfl, by decide +kernel, by decide +kernel⟩

theorem ok_beside {f : Addr} {fd : FuncData} (F : Fun K "beside_fraction" "beside_fraction" s_beside_fraction f fd) (D_sign : Df P w K mg base 1 "sign" ["number"] spSign) : FnOk P w K mg base CX0 2 f fd ["parts", "top", "bottom"] spBeside := by
  refine F.ok sc_beside_fraction (fun vs H Q E h => ?_) (fun cdv A outer s H vs Q E hr h => ?_)
  · obtain ⟨p, s, l, w, x, y, rfl, _⟩ := h
    rfl
  · obtain ⟨p, sq, l, w, x, y, rfl, hp, hs, hl, hw, hx, hy, k⟩ := h
    refine ⟨_, (pss_cons (ps_asg (pv 0) (pg_tup rfl (pgs_cons (pg_name (i := 3) sc_beside_fraction.nd rfl (.inl rfl)) (pgs_cons (pg_name (i := 4) sc_beside_fraction.nd rfl (.inl rfl)) (pgs_cons (pg_name (i := 5) sc_beside_fraction.nd rfl (.inl rfl)) pgs_nil)))))
      (pss_one (ps_ret (pe_df D_sign (hr.mono (by decide)) (by rfl) (pa_cons (pe_op op_sub (pe_op op_sub (pe_op op_mulX (pe_op op_mulX (pv 5) (pv 2)) (pv 2)) (pe_op op_mulX (pe_op op_mulX (pv 4) (pv 1)) (pv 2))) (pe_op op_mulX (pe_op op_mulX (pv 3) (pv 1)) (pv 1))) pa_nil))))), ?_⟩
    refine ⟨_, rfl, p, _, rfl, SqT.of hp, rfl, _, _, rfl, _, _, rfl, _, _, rfl, rfl, ?_⟩
    refine ⟨_, rfl, _, rfl, _, _, rfl, rfl, mx hw hy, _, rfl, _, _, rfl, rfl, mx (hw.mul hy) hy, _, rfl, _, rfl, _, _, rfl, rfl, mx hl hx, _, rfl, _, _, rfl, rfl, mx (hl.mul hx) hy, _, _, rfl, rfl, _, rfl, _, rfl, _, _, rfl, rfl, mx hs hx, _, rfl, _, _, rfl, rfl, mx (hs.mul hx) hx, _, _, rfl, rfl, _, rfl, ?_⟩
    exact k
abbrev s_simplest_equation : Stmt := top 22
theorem sc_simplest_equation : FnScope ["square", "line", "whole", "inside", "root", "divisor"] ["square", "line", "whole"] (defScope s_simplest_equation) := ⟨rfl, rfl, rfl, by decide +kernel, rfl, by decide +kernel, by decide +kernel⟩

theorem ok_simp {f : Addr} {fd : FuncData} (F : Fun K "simplest_equation" "simplest_equation" s_simplest_equation f fd) (D_common_divisor : Df P w K mg base 1 "common_divisor" ["first", "second"] spGcd) (D_square_root : Df P w K mg base 1 "square_root" ["number"] spRoot)
    (D_under_root : Df P w K mg base 1 "under_root" ["square", "line", "whole"] spUnder) (D_equation_of_fraction : Df P w K mg base 3 "equation_of_fraction" ["top", "bottom"] spEqF) : FnOk P w K mg base CX0 4 f fd ["square", "line", "whole"] spSimp := by
  refine F.ok sc_simplest_equation (fun vs H Q E h => ?_) (fun cdv A outer s H vs Q E hr h => ?_)
  · obtain ⟨a, b, c, rfl, _⟩ := h
    rfl
  · obtain ⟨a, b, c, rfl, hG, ha, hb, hc, k⟩ := h
    refine ⟨_, (pss_cons (ps_if (pt_cmpR op_eq (pv 0) pe_int (nomark _)) (pss_one (ps_ret (pe_df D_equation_of_fraction (hr.mono (by decide)) (by rfl) (pa_cons (pv 2) (pa_cons (pv 1) pa_nil))))) pss_nil)
      (pss_cons (ps_set (i := 3) sc_simplest_equation.nd rfl (.inl rfl) (pe_df D_under_root (hr.mono (by decide)) (by rfl) (pa_cons (pv 0) (pa_cons (pv 1) (pa_cons (pv 2) pa_nil)))))
      (pss_cons (ps_set (i := 4) sc_simplest_equation.nd rfl (.inl rfl) (pe_df D_square_root (hr.mono (by decide)) (by rfl) (pa_cons (pv 3) pa_nil)))
      (pss_cons (ps_if (pt_cmpR op_eq (pe_op op_mulX (pv 4) (pv 4)) (pv 3) (nomark _)) (pss_one (ps_ret (pe_df D_equation_of_fraction (hr.mono (by decide)) (by rfl) (pa_cons (pe_op op_sub (pv 4) (pv 1)) (pa_cons (pe_op op_mul pe_int (pv 0)) pa_nil))))) pss_nil)
      (pss_cons (ps_set (i := 5) sc_simplest_equation.nd rfl (.inl rfl) (pe_df D_common_divisor (hr.mono (by decide)) (by rfl) (pa_cons (pe_df D_common_divisor (hr.mono (by decide)) (by rfl) (pa_cons (pv 0) (pa_cons (pv 1) pa_nil))) (pa_cons (pv 2) pa_nil))))
      (pss_one (ps_ret (pe_tup (pa_cons (pe_op op_fdivW (pv 0) (pv 5)) (pa_cons (pe_op op_fdivW (pv 1) (pv 5)) (pa_cons (pe_op op_fdivW (pv 2) (pv 5)) pa_nil))))))))))), ?_⟩
    unfold parts at k
    refine ⟨_, rfl, rfl, _, rfl, ite2 (fun e => ?_) (fun e => ?_)⟩
    · have a0 : a = 0 := V.int.inj (of_decide_eq_true e)
      rw [if_pos a0] at k
      have b0 : 1 ≤ b := by
        rcases hG with z | z
        · exact z.2.1
        · omega
      exact ⟨_, rfl, _, rfl, c, b, rfl, by omega, hb.mono (by decide), k⟩
    · have a0 : ¬ a = 0 := fun z => e (decide_eq_true (congrArg V.int z))
      rw [if_neg a0] at k
      have hg : 1 ≤ a ∧ 1 ≤ c := by
        rcases hG with z | z
        · exact absurd z.1 a0
        · exact z
      have ip := inside_pos (b := b) hg
      have hd : Sm 270 (b * b + 4 * a * c) := by
        have h4 : Sm 3 4 := by unfold Sm; decide
        have e1 : Sm (133 + 133) (b * b) := hb.mul hb
        have e2 : Sm (3 + 133 + 133) (4 * a * c) := (h4.mul ha).mul hc
        exact (Sm.add (n := 269) (e1.mono (by decide)) (e2.mono (by decide)))
      have hr0 : Sm 135 (rt (b * b + 4 * a * c)) := rt_sm (n := 135) ip.2 hd
      refine ⟨_, rfl, _, rfl, _, rfl, a, b, c, rfl, ha.mono (by decide), hb.mono (by decide), hc.mono (by decide), ?_⟩
      refine ⟨_, rfl, _, rfl, ip.2, hd.mono (by decide), fun H1 sm => ?_⟩
      refine ⟨_, rfl, _, rfl, _, _, rfl, rfl, mx hr0 hr0, _, rfl, rfl, _, rfl, ite2 (fun e2 => ?_) (fun e2 => ?_)⟩
      · have e3 : rt (b * b + 4 * a * c) * rt (b * b + 4 * a * c) = b * b + 4 * a * c := V.int.inj (of_decide_eq_true e2)
        rw [if_pos e3] at k
        refine ⟨_, rfl, _, rfl, _, _, rfl, rfl, _, rfl, _, _, rfl, rfl, .inl ⟨by decide, by decide⟩, _, _, rfl, by omega, ?_, fun H2 p sm2 np hp => ?_⟩
        · exact (Sm.mul (m := 2) (n := 133) (x := 2) (by unfold Sm; decide) ha).mono (by decide)
        · exact k _ p (sm.trans sm2) (sm.free np) hp
      · have e3 : ¬ rt (b * b + 4 * a * c) * rt (b * b + 4 * a * c) = b * b + 4 * a * c := fun z => e2 (decide_eq_true (congrArg V.int z))
        rw [if_neg e3] at k
        have g0 : 0 < gc (gc a b) c := gc_pos (.inr (by omega))
        have gb : gc (gc a b) c ≤ c := Int.le_of_dvd (by omega) (gc_dvd2 _ _)
        have gs : Sm 133 (gc (gc a b) c) := hc.of (by omega) gb
        refine ⟨_, rfl, _, rfl, a, b, rfl, _, rfl, _, _, rfl, ?_⟩
        refine ⟨_, rfl, _, rfl, _, _, rfl, rfl, dvw g0 gs, _, rfl, _, rfl, _, _, rfl, rfl, dvw g0 gs, _, rfl, _, rfl, _, _, rfl, rfl, dvw g0 gs, (by show 3 ≤ sizeLine; decide), fun p hp => ?_⟩
        exact k _ _ (sm.trans (same_upd hp)) (sm.free hp) upd_same
end
end RL

namespace RL
open PySem L2 PySem.Spec
/-! ### methods, by position and by one keyword -/
structure Mt (P : Program) (w : World) (K : PySem.W.Frag) (mg : Str → Option Value) (base : Heap) (C : Addr) (k : Nat) (m p1 kw : Str) (sp : Sp) : Prop where
  ex : ∃ (f : Addr) (fd : FuncData), FnOk P w K mg base CX0 k f fd [p1, kw] sp ∧ Meth K C m f ∧ Binds K fd [p1, kw] [] ∧ (∀ (s : Shared) (u v : Value), K.In s.heap → BindsTo s fd ⟨[u], [(kw, v)]⟩ [(p1, u), (kw, v)])
def tMethK (C : Addr) (m : Str) (sp : Sp) (ta : TE) (tk : TA) : TE := fun σ H Q => ta σ H fun x H1 => ∃ a dx fs, x = .ref a ∧ H1 a = some (.ins C dx fs) ∧ fs.lookup m = none ∧ tk σ H1 fun zs H2 => sp (.ref a :: zs) H2 Q E0
section
variable {X : Cx} {k : Nat} {C : Addr} {sp : Sp} {m p1 kw : Str} {p pos apos kpos : Pos} {e o : Expr} {es : List Expr} {t : TA} {ta te : TE} {tk : TA}
theorem pe_dm {pl : Sem Bool} (he : PE X o ta) (c : Cls X.K C) (D : Mt X.prog X.w X.K X.mg X.base C k m p1 kw sp) (hr : Room k X.A) (ha : PA X (e :: es) t)
    (hst : starEach (e :: es) X.env = (false, eval e X.env) :: starEach es X.env := by rfl) (hpl : (backTo pos (starEach es X.env)).any (·.1) = false := by rfl)
    (ht : eval (.Call (.Attribute o m apos) (e :: es) [] pos) X.env = (do
      let ov ← eval o X.env
      standAt apos.atName
      let (f, first) ← holding [ov] (getMethod ov m pl)
      callWith pos f first (backTo pos (starEach (e :: es) X.env)) (backToKw pos (keywordEach [] X.env))) := by rfl) :
    PE X (.Call (.Attribute o m apos) (e :: es) [] pos) (tMeth C m sp [] E0 ta t) := by
  obtain ⟨f, fd, F, hm, hb, _⟩ := D.ex
  exact pe_meth (pl := pl) he c hm F hr hb .nil pass0 ha hst hpl ht
theorem pe_mk {pl : Sem Bool} (he : PE X o ta) (c : Cls X.K C) (D : Mt X.prog X.w X.K X.mg X.base C k m p1 kw sp) (hr : Room k X.A) (hkw : PK X [⟨some kw, e, kpos⟩] tk)
    (hall : (backToKw pos (keywordEach [⟨some kw, e, kpos⟩] X.env)).all (·.1.isSome) = true := by rfl) (hks : (backToKw pos (keywordEach [⟨some kw, e, kpos⟩] X.env)).filterMap (·.1) = [kw] := by rfl)
    (hpl : ((backTo pos (starEach [] X.env)).any (·.1) || (backToKw pos (keywordEach [⟨some kw, e, kpos⟩] X.env)).any (·.1.isNone)) = false := by rfl)
    (ht : eval (.Call (.Attribute o m apos) [] [⟨some kw, e, kpos⟩] pos) X.env = (do
      let ov ← eval o X.env
      standAt apos.atName
      let (f, first) ← holding [ov] (getMethod ov m pl)
      callWith pos f first (backTo pos (starEach [] X.env)) (backToKw pos (keywordEach [⟨some kw, e, kpos⟩] X.env))) := by rfl) :
    PE X (.Call (.Attribute o m apos) [] [⟨some kw, e, kpos⟩] pos) (tMethK C m sp ta tk) := by
  obtain ⟨f, fd, F, hm, _, hb⟩ := D.ex
  refine ⟨fun pins s σ H Q I h => ?_⟩
  refine PySem.W.methodCall_KW (pl := pl) (thn (he.run pins s σ H _ I h) fun u s1 ⟨x, H1, I1, rx, a, dx, fs, ex, ea, l, q⟩ => ?_) ht
  subst ex
  obtain rfl : u = Value.ref a := rx
  refine getmeth_ok I1 ea c hm l ?_
  refine PySem.W.callWith_KW0 (first := [.ref a]) (h₀ := X.base) I.ok.mod.kin hm.kp hall ?_ hpl
  refine thn (hkw.run pos pins s1 σ H1 _ I1 q) fun ws s2 ⟨zs, H2, I2, rz, q2⟩ => ⟨I2.kIn, ?_⟩
  rw [hks]
  have hl := F.len _ _ _ _ q2
  cases rz with
  | nil => cases hl
  | @cons v u vs us rv rr =>
    cases rr with
    | cons _ _ => cases hl
    | nil =>
      refine wpAny_call (codeAny_mono (F.run X.A X.stack s2 H2 ⟨[.ref a], [(kw, u)]⟩ [.ref a, u] [.ref a, v] Q E0 hr I2.env0 (hb s2 _ _ I2.kIn) (.cons rfl (.cons rv .nil)) q2) fun r s' hq => ?_)
      cases r with
      | error e => exact False.elim hq
      | ok fl =>
        cases fl with
        | ret u => exact I2.after hq
        | next => exact False.elim hq
        | brk => exact False.elim hq
        | cont => exact False.elim hq
end
/-! ### Exact -/
theorem sm12 {i : Int} (h1 : 0 ≤ i) (h2 : i ≤ 1000000000000) : Sm 1000 i := by
  have e : (10 : Int) ^ 40 = 10000000000000000000000000000000000000000 := by decide
  exact (sm40 (x := i) (by omega) (by omega)).mono (by decide)
theorem eqv2 {a b c d : Int} (h : PyData.eqv (.tuple [.int a, .int b]) (.tuple [.int c, .int d]) = true) : a = c ∧ b = d := by
  simp [PyData.eqv, PyData.eqvAll] at h
  exact h
theorem both {R G : Prop} (f : R → G) (r : R) : G := f r
def ExAt (C : Addr) (H : Hp) (x : Addr) (s l w : Int) : Prop := ∃ dx p : Addr, H x = some (.ins C dx [("parts", .ref p)]) ∧ H p = some (.tup [.int s, .int l, .int w])
def Big (a b c : Int) : Prop := Good a b c ∧ a ≤ 10000000000000000000000000000000000000000 ∧ -10000000000000000000000000000000000000000 ≤ b ∧ b ≤ 10000000000000000000000000000000000000000 ∧ c ≤ 10000000000000000000000000000000000000000
theorem Big.sm {a b c : Int} (h : Big a b c) : Sm 133 a ∧ Sm 133 b ∧ Sm 133 c := by
  obtain ⟨g, h1, h2, h3, h4⟩ := h
  have e : (10 : Int) ^ 40 = 10000000000000000000000000000000000000000 := by decide
  have a0 : 0 ≤ a ∧ 0 ≤ c := by
    rcases g with g | g <;> omega
  exact ⟨sm40 (by omega) (by omega), sm40 (by omega) (by omega), sm40 (by omega) (by omega)⟩
def spInit (C : Addr) : Sp := fun vs H Q _ => ∃ (x dx : Addr) (a b c : Int), vs = [.ref x, .int a, .int b, .int c] ∧ H x = some (.ins C dx []) ∧ Big a b c ∧
  ∀ H' : Hp, But x H H' → ExAt C H' x (parts a b c).1 (parts a b c).2.1 (parts a b c).2.2 → Q .non H'
def spCompare (C : Addr) : Sp := fun vs H Q _ => ∃ (x : Addr) (s l w : Int) (v : V), vs = [.ref x, v] ∧ ExAt C H x s l w ∧ Sm 1000 s ∧ Sm 1000 l ∧ Sm 1000 w ∧
  ((∃ i : Int, v = .int i ∧ 0 ≤ i ∧ i ≤ 1000000000000 ∧ ∀ H', Same H H' → Q (.int (beside s l w i 1)) H') ∨
   (∃ (p : Addr) (t b : Int), v = .ref p ∧ H p = some (.tup [.int t, .int b]) ∧ ResP t b ∧ ∀ H', Same H H' → Q (.int (if b = 0 then -1 else beside s l w t b)) H'))
def spFloor (C : Addr) : Sp := fun vs H Q _ => ∃ (x : Addr) (s l w t : Int), vs = [.ref x, .int t] ∧ ExAt C H x s l w ∧ Good s l w ∧ Sm 400 s ∧ Sm 400 l ∧ Sm 400 w ∧ 1 ≤ t ∧ t ≤ 10000000000000000000000000000000000000000 ∧
  ∀ H', Same H H' → Q (.int (flo s l w t)) H'
section
variable {P : Program} {w : World} {K : PySem.W.Frag} {mg : Str → Option Value} {base : Heap} {tG tP : Tok} {aO C : Addr}
abbrev s_Exact_init : Stmt := inClass (top 20) 0
theorem sc_Exact_init : FnScope ["self", "square", "line", "whole"] ["self", "square", "line", "whole"] (defScope s_Exact_init) := ⟨rfl, rfl, rfl, by decide +kernel, rfl, by decide +kernel, by decide +kernel⟩

theorem ok_init {f : Addr} {fd : FuncData} (F : Fun K "__init__" "Exact.__init__" s_Exact_init f fd) (T : Txt2 K mg tG tP aO C) (D_is_integer_within : Df P w K mg base 2 "is_integer_within" ["value", "least", "most"] spWithin) (D_simplest_equation : Df P w K mg base 4 "simplest_equation" ["square", "line", "whole"] spSimp) :
    FnOk P w K mg base CX0 5 f fd ["self", "square", "line", "whole"] (spInit C) := by
  refine F.ok sc_Exact_init (fun vs H Q E h => ?_) (fun cdv A outer s H vs Q E hr h => ?_)
  · obtain ⟨x, dx, a, b, c, rfl, _⟩ := h
    rfl
  · obtain ⟨x, dx, a, b, c, rfl, hx, hB, k⟩ := h
    refine ⟨_, (pss_cons (ps_if (pt_not (pt_val (pe_df D_is_integer_within (hr.mono (by decide)) (by rfl) (pa_cons (pv 1) (pa_cons pe_int (pa_cons (pe_glob (v := .int 10000000000000000000000000000000000000000) rfl T.mgP ⟨_, rfl⟩) pa_nil)))))) (pss_one ps_never) pss_nil)
      (pss_cons (ps_if (PW.pt (pw_or (pt_not (pt_val (pe_df D_is_integer_within (hr.mono (by decide)) (by rfl) (pa_cons (pv 2) (pa_cons (pe_un un_neg (pe_glob (v := .int 10000000000000000000000000000000000000000) rfl T.mgP ⟨_, rfl⟩)) (pa_cons (pe_glob (v := .int 10000000000000000000000000000000000000000) rfl T.mgP ⟨_, rfl⟩) pa_nil)))))) (pw_or1 (PW.pt (pw_and (pt_cmpR op_eq (pv 1) pe_int (nomark _)) (pw_and1 (pt_cmpR op_lt (pv 2) pe_int (nomark _)))))))) (pss_one ps_never) pss_nil)
      (pss_cons (ps_if (PW.pt (pw_or (pt_not (pt_val (pe_df D_is_integer_within (hr.mono (by decide)) (by rfl) (pa_cons (pv 3) (pa_cons pe_int (pa_cons (pe_glob (v := .int 10000000000000000000000000000000000000000) rfl T.mgP ⟨_, rfl⟩) pa_nil)))))) (pw_or1 (PW.pt (pw_and (pt_cmpR op_ne (pv 1) pe_int (nomark _)) (pw_and1 (pt_cmpR op_eq (pv 3) pe_int (nomark _)))))))) (pss_one ps_never) pss_nil)
      (pss_one (ps_fld (pv 0) (pe_df D_simplest_equation (hr.mono (by decide)) (by rfl) (pa_cons (pv 1) (pa_cons (pv 2) (pa_cons (pv 3) pa_nil)))) rfl))))), ?_⟩
    obtain ⟨sa, sb, sc⟩ := hB.sm
    obtain ⟨g, h1, h2, h3, h4⟩ := hB
    have a0 : 0 ≤ a ∧ 0 ≤ c := by
      rcases g with g | g <;> omega
    refine ⟨_, rfl, a, 0, _, rfl, a0.1, h1, true, rfl, iteF ?_⟩
    refine ⟨_, rfl, _, rfl, b, _, _, rfl, h2, h3, true, rfl, iteF ?_⟩
    refine both (fun rest => ⟨_, rfl, rfl, _, rfl, ite2 (fun e => ⟨_, rfl, _, _, rfl, rfl, _, rfl, ite2 (fun e2 => ?_) (fun _ => rest)⟩) (fun _ => iteF rest)⟩) ?_
    · have e3 : a = 0 := V.int.inj (of_decide_eq_true e)
      have e4 : b < 1 := of_decide_eq_true e2
      rcases g with g | g <;> omega
    refine ⟨_, rfl, c, 0, _, rfl, a0.2, h4, true, rfl, iteF ?_⟩
    refine both (fun rest => ⟨_, rfl, rfl, _, rfl, ite2 (fun e => ⟨_, rfl, rfl, _, rfl, ite2 (fun e2 => ?_) (fun _ => rest)⟩) (fun _ => iteF rest)⟩) ?_
    · have e3 : ¬ a = 0 := fun z => by
        have e5 : (!decide (V.int a = V.int 0)) = true := e
        rw [decide_eq_true (congrArg V.int z)] at e5
        cases e5
      have e4 : c = 0 := V.int.inj (of_decide_eq_true e2)
      rcases g with g | g <;> omega
    refine ⟨_, rfl, _, rfl, _, rfl, a, b, c, rfl, g, sa, sb, sc, fun H1 p sm np hp => ?_⟩
    have hx1 := sm _ _ hx
    have nxp : x ≠ p := ne_of hx1 hp (by intro z; cases z)
    refine ⟨_, rfl, x, C, dx, _, rfl, hx1, T.cl, T.nP, (by show 0 < 1000; decide), ?_⟩
    refine k _ ((But.of sm).trans But.upd) ⟨dx, p, upd_same, ?_⟩
    rw [upd_ne nxp.symm]
    exact hp
abbrev s_Exact_compare : Stmt := inClass (top 20) 3
theorem sc_Exact_compare : FnScope ["self", "resistance", "top", "bottom"] ["self", "resistance"] (defScope s_Exact_compare) := ⟨rfl, rfl, rfl, by decide +kernel, rfl, by decide +kernel, by decide +kernel⟩

theorem ok_compare {f : Addr} {fd : FuncData} (F : Fun K "compare" "Exact.compare" s_Exact_compare f fd) (T : Txt2 K mg tG tP aO C) (D_is_resistance : Df P w K mg base 3 "is_resistance" ["value"] spIsRes) (D_pair_of : Df P w K mg base 2 "pair_of" ["fraction_or_open"] spPairOf) (D_beside_fraction : Df P w K mg base 2 "beside_fraction" ["parts", "top", "bottom"] spBeside) :
    FnOk P w K mg base CX0 4 f fd ["self", "resistance"] (spCompare C) := by
  refine F.ok sc_Exact_compare (fun vs H Q E h => ?_) (fun cdv A outer s H vs Q E hr h => ?_)
  · obtain ⟨x, sq, l, w, v, rfl, _⟩ := h
    rfl
  · obtain ⟨x, sq, l, w, v, rfl, ⟨dx, pp, hx, hpp⟩, hs, hl, hw, hv⟩ := h
    refine ⟨_, (pss_cons (ps_if (pt_not (pt_val (pe_df D_is_resistance (hr.mono (by decide)) (by rfl) (pa_cons (pv 1) pa_nil)))) (pss_one ps_never) pss_nil)
      (pss_cons (ps_asg (pe_df D_pair_of (hr.mono (by decide)) (by rfl) (pa_cons (pv 1) pa_nil)) (pg_tup rfl (pgs_cons (pg_name (i := 2) sc_Exact_compare.nd rfl (.inl rfl)) (pgs_cons (pg_name (i := 3) sc_Exact_compare.nd rfl (.inl rfl)) pgs_nil))))
      (pss_cons (ps_if (pt_cmpR (op_eqD hr.units) (pe_tup (pa_cons (pv 2) (pa_cons (pv 3) pa_nil))) (pe_glob (v := .ref aO) rfl T.mgO rfl) (nomark _)) (pss_one (ps_ret (pe_un un_neg pe_int))) pss_nil)
      (pss_one (ps_ret (pe_df D_beside_fraction (hr.mono (by decide)) (by rfl) (pa_cons (pe_fld (pv 0) rfl) (pa_cons (pv 2) (pa_cons (pv 3) pa_nil))))))))), ?_⟩
    have s1 : ∀ {i : Int}, 0 ≤ i → i ≤ 1000000000000 → Sm 1000 i := fun {i} h1 h2 => sm12 h1 h2
    rcases hv with ⟨i, rfl, i0, i1, k⟩ | ⟨p, t, b, rfl, hp, hR, k⟩
    · refine ⟨_, rfl, .inl ⟨i, rfl, i0, i1, true, rfl, iteF ?_⟩⟩
      refine ⟨_, rfl, .inl ⟨i, rfl, fun H1 p sm np hp => ?_⟩⟩
      refine ⟨p, _, rfl, SqT.of hp, rfl, _, _, rfl, _, _, rfl, rfl, ?_⟩
      refine ⟨_, rfl, _, rfl, (by show 2 ≤ sizeLine; decide), fun q hq => ?_⟩
      have sm2 := sm.trans (same_upd (o := .tup [.int i, .int 1]) hq)
      refine ⟨.tuple [.int i, .int 1], .tuple [.int 1, .int 0], .tup (SqT.of upd_same) (.cons (.int _) (.cons (.int _) .nil)), .tup (.inr T.opn) (.cons (.int _) (.cons (.int _) .nil)), rfl, rfl, _, rfl, ite2 (fun e => ?_) (fun e => ?_)⟩
      · exact absurd (eqv2 e).2 (by decide)
      · refine ⟨_, rfl, x, C, dx, _, _, rfl, sm2 _ _ hx, T.cl, T.nP, rfl, _, rfl, _, rfl, pp, sq, l, w, i, 1, rfl, sm2 _ _ hpp, hs, hl, hw, s1 i0 i1, s1 (by decide) (by decide), ?_⟩
        exact k _ sm2
    · refine ⟨_, rfl, .inr ⟨p, t, b, rfl, hp, hR, true, rfl, iteF ?_⟩⟩
      refine ⟨_, rfl, .inr ⟨p, _, rfl, hp, ?_⟩⟩
      refine ⟨p, _, rfl, SqT.of hp, rfl, _, _, rfl, _, _, rfl, rfl, ?_⟩
      refine ⟨_, rfl, _, rfl, (by show 2 ≤ sizeLine; decide), fun q hq => ?_⟩
      have sm2 := same_upd (o := .tup [.int t, .int b]) hq
      refine ⟨.tuple [.int t, .int b], .tuple [.int 1, .int 0], .tup (SqT.of upd_same) (.cons (.int _) (.cons (.int _) .nil)), .tup (.inr T.opn) (.cons (.int _) (.cons (.int _) .nil)), rfl, rfl, _, rfl, ite2 (fun e => ?_) (fun e => ?_)⟩
      · rw [if_pos (eqv2 e).2] at k
        exact ⟨1, rfl, k _ sm2⟩
      · have hb : ¬ b = 0 := fun z => by
          rcases hR with z2 | ⟨rfl, rfl⟩
          · omega
          · exact e (SeqAt.eqv_refl _ (by decide +kernel))
        rw [if_neg hb] at k
        rcases hR with ⟨t0, t1, b0, b1⟩ | z
        · refine ⟨_, rfl, x, C, dx, _, _, rfl, sm2 _ _ hx, T.cl, T.nP, rfl, _, rfl, _, rfl, pp, sq, l, w, t, b, rfl, sm2 _ _ hpp, hs, hl, hw, s1 t0 t1, s1 (by omega) b1, ?_⟩
          exact k _ sm2
        · exact absurd z.2 hb
def spFloOf : Sp := fun vs H Q _ => ∃ (pp : Addr) (sq l w t : Int), vs = [.ref pp, .int t] ∧ H pp = some (.tup [.int sq, .int l, .int w]) ∧ Good sq l w ∧ Sm 400 sq ∧ Sm 400 l ∧ Sm 400 w ∧ 1 ≤ t ∧ t ≤ 10000000000000000000000000000000000000000 ∧ ∀ H', Same H H' → Q (.int (flo sq l w t)) H'
abbrev s_floor_of : Stmt := top 24
theorem sc_floor_of : FnScope ["parts", "times", "square", "line", "whole", "root"] ["parts", "times"] (defScope s_floor_of) := ⟨rfl, rfl, rfl, by decide +kernel, rfl, by decide +kernel, by decide +kernel⟩

theorem ok_floof {f : Addr} {fd : FuncData} (F : Fun K "floor_of" "floor_of" s_floor_of f fd) (D_square_root : Df P w K mg base 1 "square_root" ["number"] spRoot) (D_under_root : Df P w K mg base 1 "under_root" ["square", "line", "whole"] spUnder) :
    FnOk P w K mg base CX0 2 f fd ["parts", "times"] spFloOf := by
  refine F.ok sc_floor_of (fun vs H Q E h => ?_) (fun cdv A outer s H vs Q E hr h => ?_)
  · obtain ⟨pp, sq, l, w, t, rfl, _⟩ := h
    rfl
  · obtain ⟨pp, sq, l, w, t, rfl, hpp, hG, hs, hl, hw, t0, t1, k⟩ := h
    refine ⟨_, (pss_cons (ps_asg (pv 0) (pg_tup rfl (pgs_cons (pg_name (i := 2) sc_floor_of.nd rfl (.inl rfl)) (pgs_cons (pg_name (i := 3) sc_floor_of.nd rfl (.inl rfl)) (pgs_cons (pg_name (i := 4) sc_floor_of.nd rfl (.inl rfl)) pgs_nil)))))
      (pss_cons (ps_if (pt_cmpR op_eq (pv 2) pe_int (nomark _)) (pss_one (ps_ret (pe_op op_fdivW (pe_op op_mulX (pv 1) (pv 4)) (pv 3)))) pss_nil)
      (pss_cons (ps_set (i := 5) sc_floor_of.nd rfl (.inl rfl) (pe_df D_square_root (hr.mono (by decide)) (by rfl) (pa_cons (pe_op op_mulX (pe_op op_mulX (pv 1) (pv 1)) (pe_df D_under_root (hr.mono (by decide)) (by rfl) (pa_cons (pv 2) (pa_cons (pv 3) (pa_cons (pv 4) pa_nil))))) pa_nil)))
      (pss_one (ps_ret (pe_op op_fdivW (pe_op op_sub (pv 5) (pe_op op_mulX (pv 1) (pv 3))) (pe_op op_mul pe_int (pv 2)))))))), ?_⟩
    have e40 : (10 : Int) ^ 40 = 10000000000000000000000000000000000000000 := by decide
    have ts : Sm 133 t := sm40 (by omega) (by omega)
    unfold flo at k
    refine ⟨_, rfl, pp, _, rfl, SqT.of hpp, rfl, _, _, rfl, _, _, rfl, _, _, rfl, rfl, ?_⟩
    refine ⟨_, rfl, rfl, _, rfl, ite2 (fun e => ?_) (fun e => ?_)⟩
    · have s0 : sq = 0 := V.int.inj (of_decide_eq_true e)
      rw [if_pos s0] at k
      have l0 : 0 < l := by
        rcases hG with g | g <;> omega
      exact ⟨_, rfl, _, rfl, _, _, rfl, rfl, mx ts hw, _, rfl, _, _, rfl, rfl, dvw l0 hl, k _ (Same.refl _)⟩
    · have s0 : ¬ sq = 0 := fun z => e (decide_eq_true (congrArg V.int z))
      rw [if_neg s0] at k
      have g : 1 ≤ sq ∧ 1 ≤ w := by
        rcases hG with g | g
        · exact absurd g.1 s0
        · exact g
      have ip := inside_pos (b := l) g
      have hd : Sm 1300 (l * l + 4 * sq * w) := by
        have h4 : Sm 3 4 := by unfold Sm; decide
        have e1 : Sm (400 + 400) (l * l) := hl.mul hl
        have e2 : Sm (3 + 400 + 400) (4 * sq * w) := (h4.mul hs).mul hw
        exact (Sm.add (n := 803) (e1.mono (by decide)) (e2.mono (by decide))).mono (by decide)
      have tt : Sm (133 + 133) (t * t) := ts.mul ts
      refine ⟨_, rfl, _, rfl, _, _, rfl, rfl, mx ts ts, _, rfl, _, rfl, _, rfl, sq, l, w, rfl, hs.mono (by decide), hl.mono (by decide), hw.mono (by decide), _, _, rfl, rfl, mx tt hd, ?_⟩
      refine ⟨_, rfl, Int.mul_nonneg (Int.mul_nonneg (by omega) (by omega)) ip.2, (tt.mul hd).mono (by decide), fun H1 sm => ?_⟩
      have s2 : Sm 500 (2 * sq) := (Sm.mul (m := 2) (x := 2) (by unfold Sm; decide) hs).mono (by decide)
      refine ⟨_, rfl, _, rfl, _, rfl, _, _, rfl, rfl, mx ts hl, _, _, rfl, rfl, _, rfl, _, _, rfl, rfl, .inl ⟨by decide, by decide⟩, _, _, rfl, rfl, dvw (by omega) s2, ?_⟩
      exact k _ sm
abbrev s_Exact_floor : Stmt := inClass (top 20) 4
theorem sc_Exact_floor : FnScope ["self", "times"] ["self", "times"] (defScope s_Exact_floor) := ⟨rfl, rfl, rfl, by decide +kernel, rfl, by decide +kernel, by decide +kernel⟩

theorem ok_floor {f : Addr} {fd : FuncData} (F : Fun K "floor" "Exact.floor" s_Exact_floor f fd) (T : Txt2 K mg tG tP aO C) (D_is_integer_within : Df P w K mg base 2 "is_integer_within" ["value", "least", "most"] spWithin) (D_floor_of : Df P w K mg base 2 "floor_of" ["parts", "times"] spFloOf) :
    FnOk P w K mg base CX0 3 f fd ["self", "times"] (spFloor C) := by
  refine F.ok sc_Exact_floor (fun vs H Q E h => ?_) (fun cdv A outer s H vs Q E hr h => ?_)
  · obtain ⟨x, sq, l, w, t, rfl, _⟩ := h
    rfl
  · obtain ⟨x, sq, l, w, t, rfl, ⟨dx, pp, hx, hpp⟩, hG, hs, hl, hw, t0, t1, k⟩ := h
    refine ⟨_, (pss_cons (ps_if (pt_not (pt_val (pe_df D_is_integer_within (hr.mono (by decide)) (by rfl) (pa_cons (pv 1) (pa_cons pe_int (pa_cons (pe_glob (v := .int 10000000000000000000000000000000000000000) rfl T.mgP ⟨_, rfl⟩) pa_nil)))))) (pss_one ps_never) pss_nil)
      (pss_one (ps_ret (pe_df D_floor_of (hr.mono (by decide)) (by rfl) (pa_cons (pe_fld (pv 0) rfl) (pa_cons (pv 1) pa_nil)))))), ?_⟩
    refine ⟨_, rfl, t, 1, _, rfl, t0, t1, true, rfl, iteF ?_⟩
    exact ⟨_, rfl, x, C, dx, _, _, rfl, hx, T.cl, T.nP, rfl, _, rfl, pp, sq, l, w, t, rfl, hpp, hG, hs, hl, hw, t0, t1, k⟩
end
end RL

namespace RL
open PySem L2
theorem sm_lt {n : Nat} {x : Int} (h0 : 0 ≤ x) (h : x < 2 ^ n) : Sm n x := by
  unfold Sm
  have e : ((2 ^ n : Nat) : Int) = 2 ^ n := by rw [Int.natCast_pow]; rfl
  omega
theorem div_pos {b g : Int} (hb : 0 < b) (d : g ∣ b) (hg : 0 < g) : 1 ≤ b / g := by
  have e := ex_mul d hg
  rcases Int.lt_or_le 0 (b / g) with z | z
  · omega
  · have := Int.mul_nonpos_of_nonneg_of_nonpos (Int.le_of_lt hg) z
    omega
theorem div_div {a g : Int} (ha : 0 < a) (d : g ∣ a) (hg : 0 < g) : a / (a / g) = g := by
  have e := ex_mul d hg
  have p := div_pos ha d hg
  generalize a / g = q at *
  subst e
  exact Int.mul_ediv_cancel _ (by omega)
theorem pair_res {t b : Int} (h : 0 ≤ t ∧ t ≤ 1000000000000 ∧ 1 ≤ b ∧ b ≤ 1000000000000) : ResP (t / gc t b) (b / gc t b) := by
  obtain ⟨t0, t1, b0, b1⟩ := h
  have g0 : 0 < gc t b := gc_pos (.inr (by omega))
  have h1 := Int.ediv_le_self (gc t b) t0
  have h2 := Int.ediv_le_self (a := b) (gc t b) (by omega)
  have h3 := Int.ediv_nonneg t0 (Int.le_of_lt g0)
  have h4 := div_pos (by omega) (gc_dvd2 t b) g0
  exact .inl ⟨h3, by omega, h4, by omega⟩
def Shape (H : Hp) (v : V) (t b : Int) : Prop := (v = .int t ∧ b = 1) ∨ (∃ (q : Addr) (t' b' : Int), v = .ref q ∧ H q = some (.tup [.int t', .int b']) ∧ ResP t' b' ∧ ((b = 0 ∧ b' = 0) ∨ (∃ k : Int, 1 ≤ k ∧ t' = k * t ∧ b' = k * b ∧ 1 ≤ b)))
def spEnd : Sp := fun vs H Q _ => ∃ c : Addr, vs = [.ref c] ∧ CupAt c H ∧ ∀ H' p t b, But c H H' → CupAt c H' → H' p = some (.tup [.int t, .int b]) → ResP t b → Q (.ref p) H'
def spTold : Sp := fun vs H Q _ => ∃ (c p : Addr) (t b : Int), vs = [.ref c, .ref p] ∧ CupAt c H ∧ H p = some (.tup [.int t, .int b]) ∧ ResP t b ∧ ∀ H' v, But c H H' → CupAt c H' → Shape H' v t b → Q v H'
def spNormal : Sp := fun vs H Q _ => ∃ a b c : Int, vs = [.int a, .int b, .int c] ∧ Good a b c ∧ Sm 133 a ∧ Sm 133 b ∧ Sm 133 c ∧
  ∀ H' p, Same H H' → H' p = some (.tup [.int (parts a b c).1, .int (parts a b c).2.1, .int (parts a b c).2.2]) → Q (.ref p) H'
def spSide : Sp := fun vs H Q _ => ∃ (p q : Addr) (a b c x y : Int), vs = [.ref p, .ref q] ∧ H p = some (.tup [.int a, .int b, .int c]) ∧ H q = some (.tup [.int x, .int y]) ∧ Sm 1000 a ∧ Sm 1000 b ∧ Sm 1000 c ∧ Sm 1000 x ∧ Sm 1000 y ∧ Q (.int (side a b c x y)) H
def spThree : Sp := fun vs H Q _ => ∃ c : Addr, vs = [.ref c] ∧ CupAt c H ∧ ∀ H' p a b d, But c H H' → CupAt c H' → H' p = some (.tup [.int a, .int b, .int d]) → Big a b d → Q (.ref p) H'
section
variable {P : Program} {w : World} {K : PySem.W.Frag} {mg : Str → Option Value} {base : Heap} {tG tP : Tok} {aO C : Addr}
theorem But.tup {c p : Addr} {xs : List V} {H H' : Hp} (b : But c H H') (hc : CupAt c H) (h : H p = some (.tup xs)) : H' p = some (.tup xs) := by
  obtain ⟨x, y, e, _⟩ := hc
  exact b _ _ (ne_of h e (by intro z; cases z)) h
abbrev s_law_side : Stmt := top 37
theorem sc_law_side : FnScope ["_law_three_here", "_law_pair_here", "_law_a", "_law_b", "_law_c", "_law_x", "_law_y", "_law_worth"] ["_law_three_here", "_law_pair_here"] (defScope s_law_side) := ⟨rfl, rfl, rfl, by decide +kernel, rfl, by decide +kernel, by decide +kernel⟩

theorem ok_side {f : Addr} {fd : FuncData} (F : Fun K "_law_side" "_law_side" s_law_side f fd) : FnOk P w K mg base CX0 1 f fd ["_law_three_here", "_law_pair_here"] spSide := by
  refine F.ok sc_law_side (fun vs H Q E h => ?_) (fun cdv A outer s H vs Q E hr h => ?_)
  · obtain ⟨p, q, a, b, c, x, y, rfl, _⟩ := h
    rfl
  · obtain ⟨p, q, a, b, c, x, y, rfl, hp, hq, ha, hb, hc, hx, hy, k⟩ := h
    refine ⟨_, (pss_cons (ps_asg (pv 0) (pg_tup rfl (pgs_cons (pg_name (i := 2) sc_law_side.nd rfl (.inl rfl)) (pgs_cons (pg_name (i := 3) sc_law_side.nd rfl (.inl rfl)) (pgs_cons (pg_name (i := 4) sc_law_side.nd rfl (.inl rfl)) pgs_nil)))))
      (pss_cons (ps_asg (pv 1) (pg_tup rfl (pgs_cons (pg_name (i := 5) sc_law_side.nd rfl (.inl rfl)) (pgs_cons (pg_name (i := 6) sc_law_side.nd rfl (.inl rfl)) pgs_nil))))
      (pss_cons (ps_if (pt_cmpR op_eq (pv 6) pe_int (nomark _)) (pss_one (ps_ret (pe_un un_neg pe_int))) pss_nil)
      (pss_cons (ps_set (i := 7) sc_law_side.nd rfl (.inl rfl) (pe_op op_sub (pe_op op_add (pe_op op_mulX (pe_op op_mulX (pv 2) (pv 5)) (pv 5)) (pe_op op_mulX (pe_op op_mulX (pv 3) (pv 5)) (pv 6))) (pe_op op_mulX (pe_op op_mulX (pv 4) (pv 6)) (pv 6))))
      (pss_one (ps_ret (pe_ifExp (pt_cmpR op_lt (pv 7) pe_int (nomark _)) pe_int (pe_ifExp (pt_cmpR op_gt (pv 7) pe_int (nomark _)) (pe_un un_neg pe_int) pe_int)))))))), ?_⟩
    unfold side at k
    refine ⟨_, rfl, p, _, rfl, SqT.of hp, rfl, _, _, rfl, _, _, rfl, _, _, rfl, rfl, ?_⟩
    refine ⟨_, rfl, q, _, rfl, SqT.of hq, rfl, _, _, rfl, _, _, rfl, rfl, ?_⟩
    refine ⟨_, rfl, rfl, _, rfl, ite2 (fun e => ?_) (fun e => ?_)⟩
    · rw [if_pos (V.int.inj (of_decide_eq_true e))] at k
      exact ⟨1, rfl, k⟩
    · rw [if_neg (fun z => e (decide_eq_true (congrArg V.int z)))] at k
      refine ⟨_, rfl, _, rfl, _, _, rfl, rfl, mx ha hx, _, rfl, _, _, rfl, rfl, mx (ha.mul hx) hx, _, rfl, _, rfl, _, _, rfl, rfl, mx hb hx, _, rfl, _, _, rfl, rfl, mx (hb.mul hx) hy, _, _, rfl, rfl, _, rfl, _, rfl, _, _, rfl, rfl, mx hc hy, _, rfl, _, _, rfl, rfl, mx (hc.mul hy) hy, _, _, rfl, rfl, ?_⟩
      unfold sg at k
      refine ⟨_, rfl, _, _, rfl, rfl, _, rfl, ite2 (fun e => ?_) (fun e => ?_)⟩
      · have e0 : a * x * x + b * x * y - c * y * y < 0 := of_decide_eq_true e
        rw [if_pos (by omega)] at k
        exact k
      · have e0 : ¬ a * x * x + b * x * y - c * y * y < 0 := fun z => e (decide_eq_true z)
        rw [if_neg (by omega)] at k
        refine ⟨_, rfl, _, _, rfl, rfl, _, rfl, ite2 (fun e => ?_) (fun e => ?_)⟩
        · have e1 : 0 < a * x * x + b * x * y - c * y * y := of_decide_eq_true e
          rw [if_pos (by omega)] at k
          exact ⟨1, rfl, k⟩
        · have e1 : ¬ 0 < a * x * x + b * x * y - c * y * y := fun z => e (decide_eq_true z)
          rw [if_neg (by omega)] at k
          exact k
abbrev s_law_normal : Stmt := top 36
theorem sc_law_normal : FnScope ["_law_a", "_law_b", "_law_c", "_law_found", "_law_inside", "_law_root_here", "_law_by"] ["_law_a", "_law_b", "_law_c"] (defScope s_law_normal) := ⟨rfl, rfl, rfl, by decide +kernel, rfl, by decide +kernel, by decide +kernel⟩

theorem ok_normal {f : Addr} {fd : FuncData} (F : Fun K "_law_normal" "_law_normal" s_law_normal f fd) (T : Txt K mg) (D_law_pair : Df P w K mg base 1 "_law_pair" ["_law_top", "_law_bottom"] spPair) (D_law_root : Df P w K mg base 1 "_law_root" ["_law_worth"] spRoot) : FnOk P w K mg base CX0 2 f fd ["_law_a", "_law_b", "_law_c"] spNormal := by
  refine F.ok sc_law_normal (fun vs H Q E h => ?_) (fun cdv A outer s H vs Q E hr h => ?_)
  · obtain ⟨a, b, c, rfl, _⟩ := h
    rfl
  · obtain ⟨a, b, c, rfl, hG, ha, hb, hc, k⟩ := h
    refine ⟨_, (pss_cons (ps_if (pt_cmpR op_eq (pv 0) pe_int (nomark _)) (pss_cons (ps_set (i := 3) sc_law_normal.nd rfl (.inl rfl) (pe_df D_law_pair (hr.mono (by decide)) (by rfl) (pa_cons (pv 2) (pa_cons (pv 1) pa_nil))))
      (pss_one (ps_ret (pe_tup (pa_cons pe_int (pa_cons (pe_ix ix_tup (pv 3) pe_int (fun _ _ => rfl)) (pa_cons (pe_ix ix_tup (pv 3) pe_int (fun _ _ => rfl)) pa_nil))))))) pss_nil)
      (pss_cons (ps_set (i := 4) sc_law_normal.nd rfl (.inl rfl) (pe_op op_add (pe_op op_mulX (pv 1) (pv 1)) (pe_op op_mulX (pe_op op_mul pe_int (pv 0)) (pv 2))))
      (pss_cons (ps_set (i := 5) sc_law_normal.nd rfl (.inl rfl) (pe_df D_law_root (hr.mono (by decide)) (by rfl) (pa_cons (pv 4) pa_nil)))
      (pss_cons (ps_if (pt_cmpR op_eq (pe_op op_mulX (pv 5) (pv 5)) (pv 4) (nomark _)) (pss_cons (ps_set (i := 3) sc_law_normal.nd rfl (.inl rfl) (pe_df D_law_pair (hr.mono (by decide)) (by rfl) (pa_cons (pe_op op_sub (pv 5) (pv 1)) (pa_cons (pe_op op_mul pe_int (pv 0)) pa_nil))))
      (pss_one (ps_ret (pe_tup (pa_cons pe_int (pa_cons (pe_ix ix_tup (pv 3) pe_int (fun _ _ => rfl)) (pa_cons (pe_ix ix_tup (pv 3) pe_int (fun _ _ => rfl)) pa_nil))))))) pss_nil)
      (pss_cons (ps_set (i := 6) sc_law_normal.nd rfl (.inl rfl) (pe_ifExp (pt_cmpR op_ne (pv 1) pe_int (nomark _)) (pe_op op_fdivW (pv 0) (pe_ix ix_tup (pe_df D_law_pair (hr.mono (by decide)) (by rfl) (pa_cons (pv 0) (pa_cons (pe_callB call_abs (by rfl) T.abs (by decide +kernel) (pa_cons (pv 1) pa_nil)) pa_nil))) pe_int (fun _ _ => rfl))) (pv 0)))
      (pss_cons (ps_set (i := 6) sc_law_normal.nd rfl (.inl rfl) (pe_op op_fdivW (pv 6) (pe_ix ix_tup (pe_df D_law_pair (hr.mono (by decide)) (by rfl) (pa_cons (pv 6) (pa_cons (pv 2) pa_nil))) pe_int (fun _ _ => rfl))))
      (pss_one (ps_ret (pe_tup (pa_cons (pe_op op_fdivW (pv 0) (pv 6)) (pa_cons (pe_op op_fdivW (pv 1) (pv 6)) (pa_cons (pe_op op_fdivW (pv 2) (pv 6)) pa_nil)))))))))))), ?_⟩
    unfold parts at k
    refine ⟨_, rfl, rfl, _, rfl, ite2 (fun e => ?_) (fun e => ?_)⟩
    · have a0 : a = 0 := V.int.inj (of_decide_eq_true e)
      rw [if_pos a0] at k
      have b0 : 1 ≤ b ∧ 0 ≤ c := by
        rcases hG with z | z
        · exact z.2
        · omega
      refine ⟨_, rfl, _, rfl, c, b, rfl, b0.2, by omega, hc.mono (by decide), hb.mono (by decide), fun H1 p sm np hp => ?_⟩
      exact ⟨_, rfl, p, _, _, _, rfl, rfl, SqT.of hp, atI_nat (j := 1) rfl, _, rfl, p, _, _, _, rfl, rfl, SqT.of hp, atI_nat (j := 0) rfl, (by show 3 ≤ sizeLine; decide), fun q hq => k _ q (sm.trans (same_upd hq)) upd_same⟩
    · have a0 : ¬ a = 0 := fun z => e (decide_eq_true (congrArg V.int z))
      rw [if_neg a0] at k
      have hg : 1 ≤ a ∧ 1 ≤ c := by
        rcases hG with z | z
        · exact absurd z.1 a0
        · exact z
      have ip := inside_pos (b := b) hg
      have hd : Sm 270 (b * b + 4 * a * c) := by
        have h4 : Sm 3 4 := by unfold Sm; decide
        have e1 : Sm (133 + 133) (b * b) := hb.mul hb
        have e2 : Sm (3 + 133 + 133) (4 * a * c) := (h4.mul ha).mul hc
        exact (Sm.add (n := 269) (e1.mono (by decide)) (e2.mono (by decide)))
      have hr0 : Sm 135 (rt (b * b + 4 * a * c)) := rt_sm (n := 135) ip.2 hd
      have h4 : Sm 136 (4 * a) := Sm.mul (m := 3) (n := 133) (x := 4) (by unfold Sm; decide) ha
      refine ⟨_, rfl, _, rfl, _, _, rfl, rfl, mx hb hb, _, rfl, _, _, rfl, rfl, .inl ⟨by decide, by decide⟩, _, rfl, _, _, rfl, rfl, mx h4 hc, _, _, rfl, rfl, ?_⟩
      refine ⟨_, rfl, _, rfl, ip.2, hd.mono (by decide), fun H1 sm => ?_⟩
      refine ⟨_, rfl, _, rfl, _, _, rfl, rfl, mx hr0 hr0, _, rfl, rfl, _, rfl, ite2 (fun e2 => ?_) (fun e2 => ?_)⟩
      · have e3 : rt (b * b + 4 * a * c) * rt (b * b + 4 * a * c) = b * b + 4 * a * c := V.int.inj (of_decide_eq_true e2)
        rw [if_pos e3] at k
        have rg := rt_gt ip.1 (rt_is ip.2).1 e3.symm
        refine ⟨_, rfl, _, rfl, _, _, rfl, rfl, _, rfl, _, _, rfl, rfl, .inl ⟨by decide, by decide⟩, _, _, rfl, by omega, by omega, ?_, ?_, fun H2 p sm2 np hp => ?_⟩
        · exact (hr0.sub (hb.mono (by decide))).mono (by decide)
        · exact (Sm.mul (m := 2) (n := 133) (x := 2) (by unfold Sm; decide) ha).mono (by decide)
        · exact ⟨_, rfl, p, _, _, _, rfl, rfl, SqT.of hp, atI_nat (j := 1) rfl, _, rfl, p, _, _, _, rfl, rfl, SqT.of hp, atI_nat (j := 0) rfl, (by show 3 ≤ sizeLine; decide), fun q hq => k _ q ((sm.trans sm2).trans (same_upd hq)) upd_same⟩
      · have e3 : ¬ rt (b * b + 4 * a * c) * rt (b * b + 4 * a * c) = b * b + 4 * a * c := fun z => e2 (decide_eq_true (congrArg V.int z))
        rw [if_neg e3] at k
        have g1 : 0 < gc a b := gc_pos (.inl (by omega))
        have g1a : gc a b ≤ a := Int.le_of_dvd (by omega) (gc_dvd1 _ _)
        have g1s : Sm 133 (gc a b) := ha.of (by omega) g1a
        have g0 : 0 < gc (gc a b) c := gc_pos (.inr (by omega))
        have gb : gc (gc a b) c ≤ c := Int.le_of_dvd (by omega) (gc_dvd2 _ _)
        have gs : Sm 133 (gc (gc a b) c) := hc.of (by omega) gb
        refine ⟨_, rfl, rfl, _, rfl, ite2 (fun e4 => ?_) (fun e4 => ?_)⟩
        · have b0 : ¬ b = 0 := fun z => by
            have e5 : (!decide (V.int b = V.int 0)) = true := e4
            rw [decide_eq_true (congrArg V.int z)] at e5
            cases e5
          have ab : Sm 133 (if b < 0 then -b else b) := by
            split
            · exact hb.neg
            · exact hb
          refine ⟨_, rfl, _, rfl, _, rfl, _, rfl, a, _, rfl, by omega, by split <;> omega, ha.mono (by decide), ab.mono (by decide), fun H2 p sm2 np hp => ?_⟩
          rw [gc_abs2] at hp
          have q1 : 0 < a / gc a b := div_pos (by omega) (gc_dvd1 _ _) g1
          refine ⟨p, _, _, _, rfl, rfl, SqT.of hp, atI_nat (j := 0) rfl, _, _, rfl, rfl, dvw q1 (ha.div g1), ?_⟩
          have ed : a / (a / gc a b) = gc a b := div_div (by omega) (gc_dvd1 _ _) g1
          dsimp only
          rw [ed]
          refine ⟨_, rfl, _, rfl, _, rfl, gc a b, c, rfl, by omega, by omega, g1s.mono (by decide), hc.mono (by decide), fun H3 p2 sm3 np2 hp2 => ?_⟩
          have q2 : 0 < gc a b / gc (gc a b) c := div_pos g1 (gc_dvd1 _ _) g0
          refine ⟨p2, _, _, _, rfl, rfl, SqT.of hp2, atI_nat (j := 0) rfl, _, _, rfl, rfl, dvw q2 (g1s.div g0), ?_⟩
          have ed2 : gc a b / (gc a b / gc (gc a b) c) = gc (gc a b) c := div_div g1 (gc_dvd1 _ _) g0
          dsimp only
          rw [ed2]
          refine ⟨_, rfl, _, rfl, _, _, rfl, rfl, dvw g0 gs, _, rfl, _, rfl, _, _, rfl, rfl, dvw g0 gs, _, rfl, _, rfl, _, _, rfl, rfl, dvw g0 gs, (by show 3 ≤ sizeLine; decide), fun q hq => ?_⟩
          exact k _ q (((sm.trans sm2).trans sm3).trans (same_upd hq)) upd_same
        · have b0 : b = 0 := by
            refine Classical.byContradiction fun z => e4 ?_
            show (!decide (V.int b = V.int 0)) = true
            rw [decide_eq_false (fun y => z (V.int.inj y))]
            rfl
          subst b0
          have ed : gc a 0 = a := gc_zero (by omega)
          rw [ed] at k g0 gs g1 g1s
          refine ⟨_, rfl, ?_⟩
          refine ⟨_, rfl, _, rfl, _, rfl, a, c, rfl, by omega, by omega, g1s.mono (by decide), hc.mono (by decide), fun H3 p2 sm3 np2 hp2 => ?_⟩
          have q2 : 0 < a / gc (a) c := div_pos g1 (gc_dvd1 _ _) g0
          refine ⟨p2, _, _, _, rfl, rfl, SqT.of hp2, atI_nat (j := 0) rfl, _, _, rfl, rfl, dvw q2 (g1s.div g0), ?_⟩
          have ed2 : a / (a / gc (a) c) = gc (a) c := div_div g1 (gc_dvd1 _ _) g0
          dsimp only
          rw [ed2]
          refine ⟨_, rfl, _, rfl, _, _, rfl, rfl, dvw g0 gs, _, rfl, _, rfl, _, _, rfl, rfl, dvw g0 gs, _, rfl, _, rfl, _, _, rfl, rfl, dvw g0 gs, (by show 3 ≤ sizeLine; decide), fun q hq => ?_⟩
          exact k _ q ((sm.trans sm3).trans (same_upd hq)) upd_same
end
end RL

namespace RL
open PySem L2
section
variable {P : Program} {w : World} {K : PySem.W.Frag} {mg : Str → Option Value} {base : Heap} {tG tP : Tok} {aO C : Addr}
abbrev s_law_end : Stmt := top 32
theorem sc_law_end : FnScope ["_law_cup_here", "_law_way", "_law_small"] ["_law_cup_here"] (defScope s_law_end) := ⟨rfl, rfl, rfl, by decide +kernel, rfl, by decide +kernel, by decide +kernel⟩

theorem ok_end {f : Addr} {fd : FuncData} (F : Fun K "_law_end" "_law_end" s_law_end f fd) (D_law_sip : Df P w K mg base 1 "_law_sip" ["_law_cup_here", "_law_many"] spSip) (D_law_pair : Df P w K mg base 1 "_law_pair" ["_law_top", "_law_bottom"] spPair) : FnOk P w K mg base CX0 2 f fd ["_law_cup_here"] spEnd := by
  refine F.ok sc_law_end (fun vs H Q E h => ?_) (fun cdv A outer s H vs Q E hr h => ?_)
  · obtain ⟨c, rfl, _⟩ := h
    rfl
  · obtain ⟨c, rfl, hc, k⟩ := h
    refine ⟨_, (pss_cons (ps_par (by rfl) sc_law_end.nd (i := 1) (j := 2) rfl rfl (by decide) rfl rfl (pa_cons (pe_df D_law_sip (hr.mono (by decide)) (by rfl) (pa_cons (pv 0) (pa_cons pe_int pa_nil))) (pa_cons (pe_op op_add pe_int (pe_df D_law_sip (hr.mono (by decide)) (by rfl) (pa_cons (pv 0) (pa_cons pe_int pa_nil)))) pa_nil)) (by rfl))
      (pss_cons (ps_if (pt_cmpR op_lt (pv 1) pe_int (nomark _)) (pss_one (ps_ret (pe_ix ix_list (pe_lst (pa_cons (pe_tup (pa_cons pe_int (pa_cons pe_int pa_nil))) (pa_cons (pe_tup (pa_cons pe_int (pa_cons pe_int pa_nil))) pa_nil))) (pv 1) (fun _ _ => rfl)))) pss_nil)
      (pss_cons (ps_if (pt_cmpR op_lt (pv 1) pe_int (nomark _)) (pss_one (ps_ret (pe_df D_law_pair (hr.mono (by decide)) (by rfl) (pa_cons (pe_df D_law_sip (hr.mono (by decide)) (by rfl) (pa_cons (pv 0) (pa_cons pe_int pa_nil))) (pa_cons (pv 2) pa_nil))))) pss_nil)
      (pss_one (ps_ret (pe_ix ix_list (pe_lst (pa_cons (pe_df D_law_pair (hr.mono (by decide)) (by rfl) (pa_cons (pv 2) (pa_cons (pe_op op_add pe_int (pe_df D_law_sip (hr.mono (by decide)) (by rfl) (pa_cons (pv 0) (pa_cons pe_int pa_nil)))) pa_nil))) (pa_cons (pe_df D_law_pair (hr.mono (by decide)) (by rfl) (pa_cons (pe_op op_sub (pe_op op_pow pe_int pe_int) (pv 2)) (pa_cons (pv 2) pa_nil))) (pa_cons (pe_tup (pa_cons pe_int (pa_cons (pe_op op_add (pe_op op_pow pe_int pe_int) (pv 2)) pa_nil))) pa_nil)))) (pe_op op_sub (pv 1) pe_int) (fun _ _ => rfl))))))), ?_⟩
    refine ⟨_, rfl, c, 8, rfl, hc, by decide, (by unfold Sm; decide), fun H1 way b1 hc1 w0 w1 => ?_⟩
    refine ⟨_, rfl, c, 30, rfl, hc1, by decide, (by unfold Sm; decide), fun H2 sml b2 hc2 s0 s1 => ?_⟩
    refine ⟨_, _, rfl, rfl, _, _, rfl, ?_⟩
    have b12 := b1.trans b2
    refine ⟨_, rfl, _, _, rfl, rfl, _, rfl, ite2 (fun e => ?_) (fun e => ?_)⟩
    · have e0 : way < 2 := of_decide_eq_true e
      refine ⟨(by show 2 ≤ sizeLine; decide), fun p1 hp1 => ⟨(by show 2 ≤ sizeLine; decide), fun p2 hp2 => ⟨(by show 2 ≤ sizeLine; decide), fun l hl => ?_⟩⟩⟩
      have q1 : Same H2 (upd H2 p1 (.tup [.int 0, .int 1])) := same_upd hp1
      have q2 : Same (upd H2 p1 (.tup [.int 0, .int 1])) (upd (upd H2 p1 (.tup [.int 0, .int 1])) p2 (.tup [.int 1, .int 0])) := same_upd hp2
      have q3 := same_upd (o := .lst [.ref p1, .ref p2]) hl
      have t1 := q3 _ _ (q2 _ _ (upd_same (H := H2) (a := p1) (o := .tup [.int 0, .int 1])))
      have t2 := q3 _ _ (upd_same (H := upd H2 p1 (.tup [.int 0, .int 1])) (a := p2) (o := .tup [.int 1, .int 0]))
      have bb := b12.trans (But.of (q1.trans (q2.trans q3)))
      have cc := hc2.same (q1.trans (q2.trans q3))
      rcases (show way = 0 ∨ way = 1 by omega) with rfl | rfl
      · refine ⟨_, rfl, l, _, _, _, rfl, rfl, SqL.of upd_same, atI_nat (j := 0) rfl, ?_⟩
        exact k _ _ 0 1 bb cc t1 (.inl (by decide))
      · refine ⟨_, rfl, l, _, _, _, rfl, rfl, SqL.of upd_same, atI_nat (j := 1) rfl, ?_⟩
        exact k _ _ 1 0 bb cc t2 (.inr ⟨rfl, rfl⟩)
    · have e0 : ¬ way < 2 := fun z => e (decide_eq_true z)
      refine ⟨_, rfl, _, _, rfl, rfl, _, rfl, ite2 (fun e => ?_) (fun e => ?_)⟩
      · refine ⟨_, rfl, c, 40, rfl, hc2, by decide, (by unfold Sm; decide), fun H3 t b3 hc3 t0 t1 => ?_⟩
        refine ⟨_, rfl, t, 1 + sml, rfl, t0, by omega, (sm12 t0 (by omega)).mono (by decide), (sm12 (by omega) (by omega)).mono (by decide), fun H4 p sm np hp => ?_⟩
        exact k _ p _ _ ((b12.trans b3).trans (But.of sm)) (hc3.same sm) hp (pair_res ⟨t0, by omega, by omega, by omega⟩)
      · have e1 : ¬ way < 5 := fun z => e (decide_eq_true z)
        refine ⟨_, rfl, _, rfl, c, 9, rfl, hc2, by decide, (by unfold Sm; decide), fun H3 t b3 hc3 t0 t1 => ?_⟩
        refine ⟨_, _, rfl, rfl, 1 + sml, 1 + t, rfl, by omega, by omega, (sm12 (by omega) (by omega)).mono (by decide), (sm12 (by omega) (by omega)).mono (by decide), fun H4 p1 sm4 np4 hp1 => ?_⟩
        refine ⟨_, _, rfl, rfl, ⟨by decide, by decide, by decide⟩, _, rfl, _, _, rfl, rfl, _, rfl, ?_⟩
        refine ⟨1000000000000 - (1 + sml), 1 + sml, rfl, by omega, by omega, (sm12 (by omega) (by omega)).mono (by decide), (sm12 (by omega) (by omega)).mono (by decide), fun H5 p2 sm5 np5 hp2 => ?_⟩
        refine ⟨_, _, rfl, rfl, ⟨by decide, by decide, by decide⟩, _, rfl, _, _, rfl, rfl, (by show 2 ≤ sizeLine; decide), fun p3 hp3 => ⟨(by show 3 ≤ sizeLine; decide), fun l hl => ?_⟩⟩
        have q6 := same_upd (o := .tup [.int 1, .int (10 ^ Int.toNat 6 + (1 + sml))]) hp3
        have q7 := same_upd (o := .lst [.ref p1, .ref p2, .ref p3]) hl
        have t1' := q7 _ _ (q6 _ _ (sm5 _ _ hp1))
        have t2' := q7 _ _ (q6 _ _ hp2)
        have t3' := q7 _ _ (upd_same (H := H5) (a := p3) (o := .tup [.int 1, .int (10 ^ Int.toNat 6 + (1 + sml))]))
        have sa := (sm4.trans sm5).trans (q6.trans q7)
        have bb := (b12.trans b3).trans (But.of sa)
        have cc := hc3.same sa
        have e6 : (10 : Int) ^ Int.toNat 6 = 1000000 := by decide
        rcases (show way = 5 ∨ way = 6 ∨ way = 7 by omega) with rfl | rfl | rfl
        · refine ⟨_, rfl, _, _, rfl, rfl, l, _, _, _, rfl, rfl, SqL.of upd_same, atI_nat (j := 0) rfl, ?_⟩
          exact k _ _ _ _ bb cc t1' (pair_res ⟨by omega, by omega, by omega, by omega⟩)
        · refine ⟨_, rfl, _, _, rfl, rfl, l, _, _, _, rfl, rfl, SqL.of upd_same, atI_nat (j := 1) rfl, ?_⟩
          exact k _ _ _ _ bb cc t2' (pair_res ⟨by omega, by omega, by omega, by omega⟩)
        · refine ⟨_, rfl, _, _, rfl, rfl, l, _, _, _, rfl, rfl, SqL.of upd_same, atI_nat (j := 2) rfl, ?_⟩
          exact k _ _ _ _ bb cc t3' (.inl ⟨by decide, by decide, by omega, by omega⟩)
abbrev s_law_told : Stmt := top 33
theorem sc_law_told : FnScope ["_law_cup_here", "_law_pair_here", "_law_by"] ["_law_cup_here", "_law_pair_here"] (defScope s_law_told) := ⟨rfl, rfl, rfl, by decide +kernel, rfl, by decide +kernel, by decide +kernel⟩

theorem ok_told {f : Addr} {fd : FuncData} (F : Fun K "_law_told" "_law_told" s_law_told f fd) (D_law_sip : Df P w K mg base 1 "_law_sip" ["_law_cup_here", "_law_many"] spSip) : FnOk P w K mg base CX0 2 f fd ["_law_cup_here", "_law_pair_here"] spTold := by
  refine F.ok sc_law_told (fun vs H Q E h => ?_) (fun cdv A outer s H vs Q E hr h => ?_)
  · obtain ⟨c, p, t, b, rfl, _⟩ := h
    rfl
  · obtain ⟨c, p, t, b, rfl, hc, hp, hR, k⟩ := h
    refine ⟨_, (pss_cons (ps_if (pt_cmpR op_eq (pe_ix ix_tup (pv 1) pe_int (fun _ _ => rfl)) pe_int (nomark _)) (pss_one (ps_ret (pv 1))) pss_nil)
      (pss_cons (ps_if (PW.pt (pw_and (pt_cmpR op_eq (pe_ix ix_tup (pv 1) pe_int (fun _ _ => rfl)) pe_int (nomark _)) (pw_and1 (pt_cmpR op_eq (pe_df D_law_sip (hr.mono (by decide)) (by rfl) (pa_cons (pv 0) (pa_cons pe_int pa_nil))) pe_int (nomark _))))) (pss_one (ps_ret (pe_ix ix_tup (pv 1) pe_int (fun _ _ => rfl)))) pss_nil)
      (pss_cons (ps_set (i := 2) sc_law_told.nd rfl (.inl rfl) (pe_op op_add pe_int (pe_df D_law_sip (hr.mono (by decide)) (by rfl) (pa_cons (pv 0) (pa_cons pe_int pa_nil)))))
      (pss_one (ps_ret (pe_ifExp (PW.pt (pw_or (pt_cmpR op_gt (pe_ix ix_tup (pv 1) pe_int (fun _ _ => rfl)) (pe_op op_pow pe_int pe_int) (nomark _)) (pw_or1 (pt_cmpR op_gt (pe_ix ix_tup (pv 1) pe_int (fun _ _ => rfl)) (pe_op op_pow pe_int pe_int) (nomark _))))) (pv 1) (pe_tup (pa_cons (pe_op op_mulX (pv 2) (pe_ix ix_tup (pv 1) pe_int (fun _ _ => rfl))) (pa_cons (pe_op op_mulX (pv 2) (pe_ix ix_tup (pv 1) pe_int (fun _ _ => rfl))) pa_nil))))))))), ?_⟩
    refine ⟨_, rfl, p, _, _, _, rfl, rfl, SqT.of hp, atI_nat (j := 1) rfl, rfl, _, rfl, ite2 (fun e => ?_) (fun e => ?_)⟩
    · have b0 : b = 0 := V.int.inj (of_decide_eq_true e)
      refine ⟨_, rfl, ?_⟩
      exact k _ _ (But.refl _ _) hc (.inr ⟨p, t, b, rfl, hp, hR, .inl ⟨b0, b0⟩⟩)
    · have b0 : ¬ b = 0 := fun z => e (decide_eq_true (congrArg V.int z))
      obtain ⟨t0, t1, b1, b2'⟩ : 0 ≤ t ∧ t ≤ 1000000000000 ∧ 1 ≤ b ∧ b ≤ 1000000000000 := by
        rcases hR with z | z
        · exact z
        · exact absurd z.2 b0
      refine ⟨_, rfl, p, _, _, _, rfl, rfl, SqT.of hp, atI_nat (j := 1) rfl, rfl, _, rfl, ite2 (fun e1 => ⟨_, rfl, c, 2, rfl, hc, by decide, (by unfold Sm; decide), fun H1 r bb hc1 r0 r1 => ⟨rfl, _, rfl, ite2 (fun e2 => ?_) (fun e2 => ?_)⟩⟩) (fun _ => iteF ?_)⟩
      · have e3 : b = 1 := V.int.inj (of_decide_eq_true e1)
        exact ⟨_, rfl, p, _, _, _, rfl, rfl, SqT.of (bb.tup hc hp), atI_nat (j := 0) rfl, k _ _ bb hc1 (.inl ⟨rfl, e3⟩)⟩
      · skip
        refine ⟨_, rfl, c, 3, rfl, hc1, by decide, (by unfold Sm; decide), fun H2 r b2 hc2 r0 r1 => ⟨_, _, rfl, rfl, ?_⟩⟩
        have bb2 := bb.trans b2
        have hp2 := bb2.tup hc hp
        have e11 : (10 : Int) ^ Int.toNat 11 = 100000000000 := by decide
        have same : Shape H2 (.ref p) t b := .inr ⟨p, t, b, rfl, hp2, hR, .inr ⟨1, by decide, by omega, by omega, b1⟩⟩
        refine ⟨_, rfl, p, _, _, _, rfl, rfl, SqT.of hp2, atI_nat (j := 0) rfl, _, _, rfl, rfl, ⟨by decide, by decide, by decide⟩, _, _, rfl, rfl, _, rfl, ite2 (fun e5 => iteT ⟨_, rfl, k _ _ bb2 hc2 same⟩) (fun e5 => ?_)⟩
        have e6 : ¬ (10 : Int) ^ Int.toNat 11 < t := fun z => e5 (decide_eq_true z)
        refine ⟨_, rfl, p, _, _, _, rfl, rfl, SqT.of hp2, atI_nat (j := 1) rfl, _, _, rfl, rfl, ⟨by decide, by decide, by decide⟩, _, _, rfl, rfl, _, rfl, ite2 (fun e7 => ⟨_, rfl, k _ _ bb2 hc2 same⟩) (fun e7 => ?_)⟩
        have e8 : ¬ (10 : Int) ^ Int.toNat 11 < b := fun z => e7 (decide_eq_true z)
        have m1 : 0 ≤ (1 + r) * t := Int.mul_nonneg (by omega) t0
        have m2 : (1 + r) * t ≤ 3 * t := Int.mul_le_mul_of_nonneg_right (by omega) t0
        have m3 : b ≤ (1 + r) * b := by
          have := Int.mul_le_mul_of_nonneg_right (a := 1) (b := 1 + r) (c := b) (by omega) (by omega)
          omega
        have m4 : (1 + r) * b ≤ 3 * b := Int.mul_le_mul_of_nonneg_right (by omega) (by omega)
        have rs : Sm 10 (1 + r) := sm_lt (by omega) (by show 1 + r < 1024; omega)
        refine ⟨_, rfl, _, rfl, p, _, _, _, rfl, rfl, SqT.of hp2, atI_nat (j := 0) rfl, _, _, rfl, rfl, mx rs (sm12 t0 t1), _, rfl, _, rfl, p, _, _, _, rfl, rfl, SqT.of hp2, atI_nat (j := 1) rfl, _, _, rfl, rfl, mx rs (sm12 (by omega) b2'), (by show 2 ≤ sizeLine; decide), fun q hq => ?_⟩
        exact k _ _ (bb2.trans (But.of (same_upd hq))) (hc2.same (same_upd hq)) (.inr ⟨q, _, _, rfl, upd_same, .inl ⟨m1, by omega, by omega, by omega⟩, .inr ⟨1 + r, by omega, rfl, rfl, b1⟩⟩)
      · skip
        refine ⟨_, rfl, c, 3, rfl, hc, by decide, (by unfold Sm; decide), fun H2 r b2 hc2 r0 r1 => ⟨_, _, rfl, rfl, ?_⟩⟩
        have bb2 := (But.refl c H).trans b2
        have hp2 := bb2.tup hc hp
        have e11 : (10 : Int) ^ Int.toNat 11 = 100000000000 := by decide
        have same : Shape H2 (.ref p) t b := .inr ⟨p, t, b, rfl, hp2, hR, .inr ⟨1, by decide, by omega, by omega, b1⟩⟩
        refine ⟨_, rfl, p, _, _, _, rfl, rfl, SqT.of hp2, atI_nat (j := 0) rfl, _, _, rfl, rfl, ⟨by decide, by decide, by decide⟩, _, _, rfl, rfl, _, rfl, ite2 (fun e5 => iteT ⟨_, rfl, k _ _ bb2 hc2 same⟩) (fun e5 => ?_)⟩
        have e6 : ¬ (10 : Int) ^ Int.toNat 11 < t := fun z => e5 (decide_eq_true z)
        refine ⟨_, rfl, p, _, _, _, rfl, rfl, SqT.of hp2, atI_nat (j := 1) rfl, _, _, rfl, rfl, ⟨by decide, by decide, by decide⟩, _, _, rfl, rfl, _, rfl, ite2 (fun e7 => ⟨_, rfl, k _ _ bb2 hc2 same⟩) (fun e7 => ?_)⟩
        have e8 : ¬ (10 : Int) ^ Int.toNat 11 < b := fun z => e7 (decide_eq_true z)
        have m1 : 0 ≤ (1 + r) * t := Int.mul_nonneg (by omega) t0
        have m2 : (1 + r) * t ≤ 3 * t := Int.mul_le_mul_of_nonneg_right (by omega) t0
        have m3 : b ≤ (1 + r) * b := by
          have := Int.mul_le_mul_of_nonneg_right (a := 1) (b := 1 + r) (c := b) (by omega) (by omega)
          omega
        have m4 : (1 + r) * b ≤ 3 * b := Int.mul_le_mul_of_nonneg_right (by omega) (by omega)
        have rs : Sm 10 (1 + r) := sm_lt (by omega) (by show 1 + r < 1024; omega)
        refine ⟨_, rfl, _, rfl, p, _, _, _, rfl, rfl, SqT.of hp2, atI_nat (j := 0) rfl, _, _, rfl, rfl, mx rs (sm12 t0 t1), _, rfl, _, rfl, p, _, _, _, rfl, rfl, SqT.of hp2, atI_nat (j := 1) rfl, _, _, rfl, rfl, mx rs (sm12 (by omega) b2'), (by show 2 ≤ sizeLine; decide), fun q hq => ?_⟩
        exact k _ _ (bb2.trans (But.of (same_upd hq))) (hc2.same (same_upd hq)) (.inr ⟨q, _, _, rfl, upd_same, .inl ⟨m1, by omega, by omega, by omega⟩, .inr ⟨1 + r, by omega, rfl, rfl, b1⟩⟩)
abbrev s_law_three : Stmt := top 38
theorem sc_law_three : FnScope ["_law_cup_here", "_law_way", "_law_wide", "_law_a", "_law_c", "_law_b", "_law_top", "_law_bottom"] ["_law_cup_here"] (defScope s_law_three) := ⟨rfl, rfl, rfl, by decide +kernel, rfl, by decide +kernel, by decide +kernel⟩

theorem ok_three {f : Addr} {fd : FuncData} (F : Fun K "_law_three" "_law_three" s_law_three f fd) (T : Txt K mg) (D_law_sip : Df P w K mg base 1 "_law_sip" ["_law_cup_here", "_law_many"] spSip) (D_law_pick : Df P w K mg base 2 "_law_pick" ["_law_cup_here", "_law_things"] spPick) : FnOk P w K mg base CX0 3 f fd ["_law_cup_here"] spThree := by
  refine F.ok sc_law_three (fun vs H Q E h => ?_) (fun cdv A outer s H vs Q E hr h => ?_)
  · obtain ⟨c, rfl, _⟩ := h
    rfl
  · obtain ⟨c, rfl, hc, k⟩ := h
    refine ⟨_, (pss_cons (ps_par (by rfl) sc_law_three.nd (i := 1) (j := 2) rfl rfl (by decide) rfl rfl (pa_cons (pe_df D_law_sip (hr.mono (by decide)) (by rfl) (pa_cons (pv 0) (pa_cons pe_int pa_nil))) (pa_cons (pe_df D_law_pick (hr.mono (by decide)) (by rfl) (pa_cons (pv 0) (pa_cons (pe_lst (pa_cons pe_int (pa_cons pe_int (pa_cons (pe_op op_pow pe_int pe_int) (pa_cons (pe_op op_pow pe_int pe_int) pa_nil))))) pa_nil))) pa_nil)) (by rfl))
      (pss_cons (ps_par (by rfl) sc_law_three.nd (i := 3) (j := 4) rfl rfl (by decide) rfl rfl (pa_cons (pe_df D_law_sip (hr.mono (by decide)) (by rfl) (pa_cons (pv 0) (pa_cons (pv 2) pa_nil))) (pa_cons (pe_op op_add pe_int (pe_df D_law_sip (hr.mono (by decide)) (by rfl) (pa_cons (pv 0) (pa_cons (pv 2) pa_nil)))) pa_nil)) (by rfl))
      (pss_cons (ps_set (i := 5) sc_law_three.nd rfl (.inl rfl) (pe_op op_sub (pe_df D_law_sip (hr.mono (by decide)) (by rfl) (pa_cons (pv 0) (pa_cons (pe_op op_mul pe_int (pv 2)) pa_nil))) (pv 2)))
      (pss_cons (ps_if (PW.pt (pw_or (pt_cmpR op_eq (pv 1) pe_int (nomark _)) (pw_or1 (pt_cmpR op_eq (pv 3) pe_int (nomark _))))) (pss_one (ps_ret (pe_tup (pa_cons pe_int (pa_cons (pe_op op_add pe_int (pe_callB call_abs (by rfl) T.abs (by decide +kernel) (pa_cons (pv 5) pa_nil))) (pa_cons (pe_op op_sub (pv 4) pe_int) pa_nil)))))) pss_nil)
      (pss_cons (ps_if (pt_cmpR op_eq (pv 1) pe_int (nomark _)) (pss_cons (ps_par (by rfl) sc_law_three.nd (i := 6) (j := 7) rfl rfl (by decide) rfl rfl (pa_cons (pe_op op_add pe_int (pe_df D_law_sip (hr.mono (by decide)) (by rfl) (pa_cons (pv 0) (pa_cons pe_int pa_nil)))) (pa_cons (pe_op op_add pe_int (pe_df D_law_sip (hr.mono (by decide)) (by rfl) (pa_cons (pv 0) (pa_cons pe_int pa_nil)))) pa_nil)) (by rfl))
      (pss_one (ps_ret (pe_ifExp (pt_cmpR op_eq (pe_df D_law_sip (hr.mono (by decide)) (by rfl) (pa_cons (pv 0) (pa_cons pe_int pa_nil))) pe_int (nomark _)) (pe_tup (pa_cons (pe_op op_mulX (pv 3) (pv 7)) (pa_cons (pe_op op_sub (pe_op op_mulX (pv 7) (pv 4)) (pe_op op_mulX (pv 3) (pv 6))) (pa_cons (pe_op op_mulX (pv 4) (pv 6)) pa_nil)))) (pe_tup (pa_cons (pe_op op_mulX (pv 3) (pv 3)) (pa_cons pe_int (pa_cons (pe_op op_mulX (pv 4) (pv 4)) pa_nil)))))))) pss_nil)
      (pss_one (ps_ret (pe_tup (pa_cons (pv 3) (pa_cons (pv 5) (pa_cons (pv 4) pa_nil))))))))))), ?_⟩
    refine ⟨_, rfl, c, 5, rfl, hc, by decide, (by unfold Sm; decide), fun H1 way b1 hc1 w0 w1 => ?_⟩
    refine ⟨_, rfl, _, _, rfl, rfl, ⟨by decide, by decide, by decide⟩, _, _, rfl, rfl, ⟨by decide, by decide, by decide⟩, (by show 4 ≤ sizeLine; decide), fun l hl => ?_⟩
    have sl := same_upd (o := .lst [.int 4, .int 30, .int (10 ^ Int.toNat 6), .int (10 ^ Int.toNat 20)]) hl
    refine ⟨c, l, _, rfl, hc1.same sl, hc1.ne hl, upd_same, by decide, by decide, fun H2 v b2 hc2 hv => ?_⟩
    have e6 : (10 : Int) ^ Int.toNat 6 = 1000000 := by decide
    have e20 : (10 : Int) ^ Int.toNat 20 = 100000000000000000000 := by decide
    obtain ⟨wide, rfl, wl, wh⟩ : ∃ wide : Int, v = .int wide ∧ 4 ≤ wide ∧ wide ≤ 100000000000000000000 := by
      simp only [List.mem_cons, List.not_mem_nil, or_false] at hv
      rcases hv with rfl | rfl | rfl | rfl
      · exact ⟨_, rfl, by omega, by omega⟩
      · exact ⟨_, rfl, by omega, by omega⟩
      · exact ⟨_, rfl, by omega, by omega⟩
      · exact ⟨_, rfl, by omega, by omega⟩
    have bb := b1.trans ((But.of sl).trans b2)
    refine ⟨_, _, rfl, ?_⟩
    have sm20 : ∀ {z : Int}, 0 ≤ z → z ≤ 200000000000000000000 → Sm 70 z := fun h0 h1 => sm_lt h0 (Int.lt_of_le_of_lt h1 (by decide))
    refine ⟨_, rfl, _, rfl, c, wide, rfl, hc2, by omega, (sm20 (by omega) (by omega)).mono (by decide), fun H3 a b3 hc3 a0 a1 => ?_⟩
    refine ⟨_, rfl, _, rfl, c, wide, rfl, hc3, by omega, (sm20 (by omega) (by omega)).mono (by decide), fun H4 d b4 hc4 d0 d1 => ?_⟩
    refine ⟨_, _, rfl, rfl, _, _, rfl, ?_⟩
    refine ⟨_, rfl, _, rfl, _, _, rfl, rfl, .inl ⟨by decide, by decide⟩, c, 2 * wide, rfl, hc4, by omega, (sm20 (by omega) (by omega)).mono (by decide), fun H5 g b5 hc5 g0 g1 => ?_⟩
    refine ⟨_, rfl, _, _, rfl, rfl, ?_⟩
    have bb5 := ((bb.trans b3).trans b4).trans b5
    -- way 0, or a is 0
    have fin0 : ∀ z : Int, (z = if g - wide < 0 then -(g - wide) else g - wide) → Big 0 (1 + z) (1 + d - 1) := fun z ez => by
      have : 0 ≤ z ∧ z ≤ 100000000000000000000 := by
        subst ez
        split <;> omega
      exact ⟨.inl ⟨rfl, by omega, by omega⟩, by omega, by omega, by omega, by omega⟩
    refine ⟨_, rfl, rfl, _, rfl, ite2 (fun e => iteT ?_) (fun e => ?_)⟩
    · refine ⟨_, rfl, _, rfl, _, _, rfl, rfl, _, rfl, _, _, rfl, rfl, (by show 3 ≤ sizeLine; decide), fun q hq => ?_⟩
      exact k _ q _ _ _ (bb5.trans (But.of (same_upd hq))) (hc5.same (same_upd hq)) upd_same (fin0 _ rfl)
    · refine ⟨_, rfl, rfl, _, rfl, ite2 (fun e2 => ?_) (fun e2 => ?_)⟩
      · refine ⟨_, rfl, _, rfl, _, _, rfl, rfl, _, rfl, _, _, rfl, rfl, (by show 3 ≤ sizeLine; decide), fun q hq => ?_⟩
        exact k _ q _ _ _ (bb5.trans (But.of (same_upd hq))) (hc5.same (same_upd hq)) upd_same (fin0 _ rfl)
      · have a2 : ¬ a = 0 := fun z => e2 (decide_eq_true (congrArg V.int z))
        have as : Sm 70 a := sm20 a0 (by omega)
        have ds : Sm 70 (1 + d) := sm20 (by omega) (by omega)
        refine ⟨_, rfl, rfl, _, rfl, ite2 (fun e3 => ?_) (fun e3 => ?_)⟩
        · refine ⟨_, rfl, c, 30, rfl, hc5, by decide, (by unfold Sm; decide), fun H6 x b6 hc6 x0 x1 => ⟨_, _, rfl, rfl, ?_⟩⟩
          refine ⟨_, rfl, c, 30, rfl, hc6, by decide, (by unfold Sm; decide), fun H7 y b7 hc7 y0 y1 => ⟨_, _, rfl, rfl, _, _, rfl, ?_⟩⟩
          refine ⟨_, rfl, c, 2, rfl, hc7, by decide, (by unfold Sm; decide), fun H8 u b8 hc8 u0 u1 => ⟨rfl, _, rfl, ite2 (fun e4 => ?_) (fun e4 => ?_)⟩⟩
          · have xs : Sm 70 (1 + x) := sm20 (by omega) (by omega)
            have ys : Sm 70 (1 + y) := sm20 (by omega) (by omega)
            refine ⟨_, rfl, _, rfl, _, _, rfl, rfl, mx as ys, _, rfl, _, rfl, _, _, rfl, rfl, mx ys ds, _, rfl, _, rfl, _, _, rfl, rfl, mx as xs, _, _, rfl, rfl, _, rfl, _, rfl, _, _, rfl, rfl, mx ds xs, (by show 3 ≤ sizeLine; decide), fun q hq => ?_⟩
            have r1 : 1 * 1 ≤ a * (1 + y) := Int.mul_le_mul (by omega) (by omega) (by omega) (by omega)
            have r2 : a * (1 + y) ≤ 100000000000000000000 * 30 := Int.mul_le_mul (by omega) (by omega) (by omega) (by omega)
            have r3 : 0 ≤ (1 + y) * (1 + d) := Int.mul_nonneg (by omega) (by omega)
            have r4 : (1 + y) * (1 + d) ≤ 30 * 100000000000000000000 := Int.mul_le_mul (by omega) (by omega) (by omega) (by omega)
            have r5 : 0 ≤ a * (1 + x) := Int.mul_nonneg (by omega) (by omega)
            have r6 : a * (1 + x) ≤ 100000000000000000000 * 30 := Int.mul_le_mul (by omega) (by omega) (by omega) (by omega)
            have r7 : 1 * 1 ≤ (1 + d) * (1 + x) := Int.mul_le_mul (by omega) (by omega) (by omega) (by omega)
            have r8 : (1 + d) * (1 + x) ≤ 100000000000000000000 * 30 := Int.mul_le_mul (by omega) (by omega) (by omega) (by omega)
            exact k _ q _ _ _ ((((bb5.trans b6).trans b7).trans b8).trans (But.of (same_upd hq))) (hc8.same (same_upd hq)) upd_same ⟨.inr ⟨by omega, by omega⟩, by omega, by omega, by omega, by omega⟩
          · refine ⟨_, rfl, _, rfl, _, _, rfl, rfl, mx as as, _, rfl, _, rfl, _, _, rfl, rfl, mx ds ds, (by show 3 ≤ sizeLine; decide), fun q hq => ?_⟩
            have r1 : 1 * 1 ≤ a * a := Int.mul_le_mul (by omega) (by omega) (by omega) (by omega)
            have r2 : a * a ≤ 100000000000000000000 * 100000000000000000000 := Int.mul_le_mul (by omega) (by omega) (by omega) (by omega)
            have r7 : 1 * 1 ≤ (1 + d) * (1 + d) := Int.mul_le_mul (by omega) (by omega) (by omega) (by omega)
            have r8 : (1 + d) * (1 + d) ≤ 100000000000000000000 * 100000000000000000000 := Int.mul_le_mul (by omega) (by omega) (by omega) (by omega)
            exact k _ q _ _ _ ((((bb5.trans b6).trans b7).trans b8).trans (But.of (same_upd hq))) (hc8.same (same_upd hq)) upd_same ⟨.inr ⟨by omega, by omega⟩, by omega, by omega, by omega, by omega⟩
        · refine ⟨_, rfl, _, rfl, _, rfl, (by show 3 ≤ sizeLine; decide), fun q hq => ?_⟩
          exact k _ q _ _ _ (bb5.trans (But.of (same_upd hq))) (hc5.same (same_upd hq)) upd_same ⟨.inr ⟨by omega, by omega⟩, by omega, by omega, by omega, by omega⟩
end
end RL

namespace PySem
section
variable {prog : Program} {w : World} {A : Around} {E : Value → Shared → Prop} {s : Shared} {l : Addr} {xs : Array (Int × Tok)}
theorem rl_max_intTup {Q : Value → Shared → Prop} (hh : A.handled = none) (hl : s.heap.IsTuple l (intItems xs)) (hne : 0 < xs.size)
    (h : ∀ v h' tk, (intItems xs)[argBest (fun i j => decide (numAt xs i > numAt xs j)) (xs.size - 1)]? = some v → (∀ b o, s.heap.get? b = some o → h'.get? b = some o) → Q v { s with heap := h', toks := tk }) :
    wpAny (model prog w) A (call (.builtin "max") [.ref l]) Q E s := by
  have hlt : l < s.heap.objs.size := by obtain ⟨_, e, _⟩ := hl; exact Heap.lt_size e
  refine call_max_walk (wpAny_pyIter_tuple hl ?_)
  refine ⟨_, _, _, _, _, _, _, rfl, Walks.tuple (A := A.in1) hh _ l (Nat.ne_of_lt hlt) (intItems xs), ⟨⟨_, Heap.get?_push_size _ rfl, rfl, rfl⟩, hl.push _⟩, (fun b hb => ?_), by simpa [intItems] using hne, CmpOf.ints_gt (numAt xs) (fun _ _ => intItems_at), fun v h' tk hP hk => ?_⟩
  · show b < (s.heap.push _).objs.size
    rw [Heap.size_push]
    rcases List.mem_cons.mp hb with rfl | hb
    · exact Nat.lt_succ_self _
    · rcases List.mem_cons.mp hb with rfl | hb
      · exact Nat.lt_succ_of_lt hlt
      · cases hb
  · refine h v h' tk (by simpa [intItems] using hP) fun b o e => hk b o (fun hm => ?_) (Heap.get?_push_of_some _ e)
    rcases List.mem_cons.mp hm with e1 | hm
    · exact absurd (e1 ▸ Heap.lt_size e) (Nat.lt_irrefl _)
    · cases hm
end
end PySem
namespace RL
open PySem L2 PyProof.Rows
theorem max_rawT {prog : Program} {w : World} {A : Around} {E : Value → Shared → Prop} {s : Shared} {l : Addr} {its : List Value} {ns : List Int} {Q : Value → Shared → Prop} (hh : A.handled = none) (hl : IsTup s.heap l its.toArray) (hi : IntsAre its ns) (hne : 0 < ns.length)
    (h : ∀ h' tk M t', (∀ b o, s.heap.get? b = some o → h'.get? b = some o) → M ∈ ns → (∀ a, a ∈ ns → a ≤ M) → Q (.int M t') { s with heap := h', toks := tk }) : wpAny (model prog w) A (call (.builtin "max") [.ref l]) Q E s := by
  obtain ⟨xs, e⟩ := hi.allInts.items
  have hn : numsOf (intItems xs).toList = ns := by rw [← e]; exact hi.numsOf
  rw [nums_intItems] at hn
  subst hn
  rw [e] at hl
  have hsz : 0 < xs.size := by simpa using hne
  refine PySem.rl_max_intTup hh hl hsz fun v h' tk hv hk => ?_
  obtain ⟨t, rfl⟩ := intItems_at hv
  obtain ⟨h1, h2⟩ := argBest_gt (numAt xs) (xs.size - 1)
  refine h h' tk _ t hk ?_ fun a ha => ?_
  · rw [numAt_eq]; exact PySem.getD_mem (by rw [List.length_map, Array.length_toList]; omega)
  · obtain ⟨j, hj, rfl⟩ := mem_getD ha
    rw [List.length_map, Array.length_toList] at hj
    rw [← numAt_eq]; exact h2 j (by omega)
def rMaxT (K : PySem.W.Frag) : List V → Hp → VK → Prop := fun vs H Q => ∃ (a : Addr) (ns : List Int), vs = [V.ref a] ∧ SqT K H a (ns.map V.int) ∧ 0 < ns.length ∧ ∀ m, m ∈ ns → (∀ y, y ∈ ns → y ≤ m) → Q (.int m) H
theorem cr_maxT {X : Cx} (hc : X.calm = true) : CallR X (.builtin "max") (rMaxT X.K) := by
  intro pins s σ H vs us Q I r h
  obtain ⟨a, ns, rfl, hs, hne, q⟩ := h
  obtain ⟨its, rv, hl, _⟩ := I.tuple hs
  rw [Vals.ref1 r]
  exact max_rawT (I.ok.hd hc) hl rv.ints hne fun h' tk m t' hk h1 h2 => ⟨.int _, H, I.kept hk, ⟨_, rfl⟩, q m h1 h2⟩
/-! ### a new Exact -/
structure ExD (P : Program) (w : World) (K : PySem.W.Frag) (mg : Str → Option Value) (base : Heap) (C : Addr) : Prop where
  ex : ∃ (fI : Addr) (fdI : FuncData), Mk K C fI ∧ FnOk P w K mg base CX0 5 fI fdI ["self", "square", "line", "whole"] (spInit C) ∧ Binds K fdI ["self", "square", "line", "whole"] []
theorem pe_exact {X : Cx} {C : Addr} {p pos : Pos} {e : Expr} {es : List Expr} {t : TA} (D : ExD X.prog X.w X.K X.mg X.base C) (hr : Room 6 X.A) (hg : Gl X "Exact") (hm : X.mg "Exact" = some (.ref C))
    (ha : PA X (e :: es) t) (he : starEach (e :: es) X.env = (false, eval e X.env) :: starEach es X.env := by rfl) (hpl : (backTo pos (starEach es X.env)).any (·.1) = false := by rfl) :
    PE X (.Call (.Name "Exact" p) (e :: es) [] pos) (tMake C (spInit C) [] E0 t) := by
  obtain ⟨fI, fdI, M, G, hb⟩ := D.ex
  exact pe_make M G hr hg hm hb .nil pass0 ha (by decide) he hpl
theorem But.new {c l : Addr} {o : HO} {H H' : Hp} (b : But c H H') (n : H l = none) : But c H (L2.upd H' l o) := fun x u nx e => by
  rw [upd_ne (ne_of_none e n)]
  exact b x u nx e
theorem lk_floor (v : V) : ([("parts", v)] : List (Str × V)).lookup ("floor" : Str) = none := by
  have : (("floor" : Str) == ("parts" : Str)) = false := by decide +kernel
  simp [List.lookup, this]
theorem lk_compare (v : V) : ([("parts", v)] : List (Str × V)).lookup ("compare" : Str) = none := by
  have : (("compare" : Str) == ("parts" : Str)) = false := by decide +kernel
  simp [List.lookup, this]
theorem ExAt.same {C x : Addr} {H H' : Hp} {s l w : Int} (h : ExAt C H x s l w) (sm : Same H H') : ExAt C H' x s l w := by
  obtain ⟨dx, p, a, b⟩ := h
  exact ⟨dx, p, sm _ _ a, sm _ _ b⟩
theorem ExAt.but {C x c : Addr} {H H' : Hp} {s l w : Int} (h : ExAt C H x s l w) (hc : CupAt c H) (sm : But c H H') : ExAt C H' x s l w := by
  obtain ⟨dx, p, a, b⟩ := h
  refine ⟨dx, p, ?_, sm.tup hc b⟩
  obtain ⟨u, v, e, _⟩ := hc
  exact sm _ _ (ne_of a e (by intro z; cases z)) a
def spFloorRight (C : Addr) : Sp := fun vs H Q _ => ∃ (x p : Addr) (a b c t : Int), vs = [.ref x, .ref p, .int t] ∧ Big a b c ∧ ExAt C H x (parts a b c).1 (parts a b c).2.1 (parts a b c).2.2 ∧ H p = some (.tup [.int a, .int b, .int c]) ∧ 1 ≤ t ∧ t ≤ 10000000000000000000000000000000000000000 ∧
  ∀ H', Same H H' → Q (.bl true) H'
theorem smt {t : Int} (t0 : 1 ≤ t) (t1 : t ≤ 10000000000000000000000000000000000000000) : Sm 133 t := by
  have e40 : (10 : Int) ^ 40 = 10000000000000000000000000000000000000000 := by decide
  exact sm40 (by omega) (by omega)
/-- a floor is not too great -/
theorem flo_sm {s l w t : Int} (h : Good s l w) (hs : Sm 400 s) (hl : Sm 400 l) (hw : Sm 400 w) (t0 : 1 ≤ t) (ts : Sm 133 t) : Sm 950 (flo s l w t) := by
  unfold flo
  split
  · rename_i z
    have l0 : 0 < l := by
      rcases h with g | g <;> omega
    exact ((ts.mul hw).div l0).mono (by decide)
  · rename_i z
    have g : 1 ≤ s ∧ 1 ≤ w := by
      rcases h with g | g
      · exact absurd g.1 z
      · exact g
    have ip := inside_pos (b := l) g
    have hd : Sm 1300 (l * l + 4 * s * w) := by
      have h4 : Sm 3 4 := by unfold Sm; decide
      have e1 : Sm (400 + 400) (l * l) := hl.mul hl
      have e2 : Sm (3 + 400 + 400) (4 * s * w) := (h4.mul hs).mul hw
      exact (Sm.add (n := 803) (e1.mono (by decide)) (e2.mono (by decide))).mono (by decide)
    have tt : Sm (133 + 133) (t * t) := ts.mul ts
    have w0 : 0 ≤ t * t * (l * l + 4 * s * w) := Int.mul_nonneg (Int.mul_nonneg (by omega) (by omega)) ip.2
    have hr : Sm 900 (rt (t * t * (l * l + 4 * s * w))) := rt_sm (n := 900) w0 ((tt.mul hd).mono (by decide))
    exact ((Sm.sub (n := 900) hr ((ts.mul hl).mono (by decide))).div (by omega)).mono (by decide)
section
variable {P : Program} {w : World} {K : PySem.W.Frag} {mg : Str → Option Value} {base : Heap} {tG tP : Tok} {aO C : Addr}
abbrev s_law_floor_right : Stmt := top 39
theorem sc_law_floor_right : FnScope ["_law_mine", "_law_three_here", "_law_by", "_law_told_here"] ["_law_mine", "_law_three_here", "_law_by"] (defScope s_law_floor_right) := ⟨rfl, rfl, rfl, by decide +kernel, rfl, by decide +kernel, by decide +kernel⟩

theorem ok_floor_right {f : Addr} {fd : FuncData} (F : Fun K "_law_floor_right" "_law_floor_right" s_law_floor_right f fd) (T : Txt2 K mg tG tP aO C) (M_floor : Mt P w K mg base C 3 "floor" "self" "times" (spFloor C)) (D_law_side : Df P w K mg base 1 "_law_side" ["_law_three_here", "_law_pair_here"] spSide) :
    FnOk P w K mg base CX0 4 f fd ["_law_mine", "_law_three_here", "_law_by"] (spFloorRight C) := by
  refine F.ok sc_law_floor_right (fun vs H Q E h => ?_) (fun cdv A outer s H vs Q E hr h => ?_)
  · obtain ⟨x, p, a, b, c, t, rfl, _⟩ := h
    rfl
  · obtain ⟨x, p, a, b, c, t, rfl, hB, hE, hp, t0, t1, k⟩ := h
    refine ⟨_, (pss_cons (ps_set (i := 3) sc_law_floor_right.nd rfl (.inl rfl) (pe_dm (pv 0) T.cl M_floor (hr.mono (by decide)) (pa_cons (pv 2) pa_nil)))
      (pss_cons (ps_if (PW.pt (pw_or (pt_not (pt_val (pe_callB call_isi (by rfl) T.isinstance (by decide +kernel) (pa_cons (pv 3) (pa_cons (pe_bltn (v := .ty "int") (by rfl) T.int_ (by decide +kernel) rfl) pa_nil))))) (pw_or (pt_cmpR op_lt (pv 3) pe_int (nomark _)) (pw_or1 (pt_cmpR op_ne (pe_mk (pv 0) T.cl M_floor (hr.mono (by decide)) (pk_cons (pv 2) pk_nil)) (pv 3) (nomark _)))))) (pss_one (ps_ret pe_bl)) pss_nil)
      (pss_one (ps_ret (pe_and (pe_cmpR op_ge (pe_df D_law_side (hr.mono (by decide)) (by rfl) (pa_cons (pv 1) (pa_cons (pe_tup (pa_cons (pv 3) (pa_cons (pv 2) pa_nil))) pa_nil))) pe_int (nomark _)) (pe_one (pe_cmpR op_lt (pe_df D_law_side (hr.mono (by decide)) (by rfl) (pa_cons (pv 1) (pa_cons (pe_tup (pa_cons (pe_op op_add (pv 3) pe_int) (pa_cons (pv 2) pa_nil))) pa_nil))) pe_int (nomark _)))))))), ?_⟩
    obtain ⟨sa, sb, sc⟩ := hB.sm
    have N := parts_nrm hB.1
    obtain ⟨p1, p2, p3⟩ := parts_sm hB.1 sa sb sc
    have fl := flo_is N.good t0
    have fs := flo_sm N.good (p1.mono (by decide)) (p2.mono (by decide)) (p3.mono (by decide)) t0 (smt t0 t1)
    rw [N.side fl.1 t0, N.side (by omega) t0] at fl
    obtain ⟨dx, pp, hx, hpp⟩ := id hE
    refine ⟨_, rfl, x, dx, _, rfl, hx, lk_floor _, _, rfl, x, _, _, _, t, rfl, hE, N.good, p1.mono (by decide), p2.mono (by decide), p3.mono (by decide), t0, t1, fun H1 sm1 => ?_⟩
    have Sab : ∀ (z : Int) (H2 : Hp), Same H H2 → H2 p = some (.tup [.int a, .int b, .int c]) := fun _ H2 h2 => h2 _ _ hp
    have bigs : Sm 1000 a ∧ Sm 1000 b ∧ Sm 1000 c := ⟨sa.mono (by decide), sb.mono (by decide), sc.mono (by decide)⟩
    have fs1 : Sm 1000 (flo (parts a b c).1 (parts a b c).2.1 (parts a b c).2.2 t + 1) := (fs.add (show Sm 950 1 from Nat.lt_of_lt_of_le (by decide : (1 : Int).natAbs < 2 ^ 1) (Nat.pow_le_pow_right (by decide) (by decide)))).mono (by decide)
    refine ⟨_, rfl, _, _, _, _, true, rfl, .ty _, .base (.int _), kit_ty (by decide +kernel), true, rfl, iteF ?_⟩
    refine ⟨_, rfl, _, _, rfl, rfl, _, rfl, ite2 (fun e => ?_) (fun _ => ?_)⟩
    · have e0 : flo (parts a b c).1 (parts a b c).2.1 (parts a b c).2.2 t < 0 := of_decide_eq_true e
      omega
    refine ⟨_, rfl, x, dx, _, rfl, sm1 _ _ hx, lk_floor _, _, rfl, x, _, _, _, t, rfl, hE.same sm1, N.good, p1.mono (by decide), p2.mono (by decide), p3.mono (by decide), t0, t1, fun H2 sm2 => ?_⟩
    refine ⟨_, rfl, rfl, _, rfl, ite2 (fun e => ?_) (fun _ => ?_)⟩
    · have e5 : (!decide (V.int (flo (parts a b c).1 (parts a b c).2.1 (parts a b c).2.2 t) = V.int (flo (parts a b c).1 (parts a b c).2.1 (parts a b c).2.2 t))) = true := e
      rw [decide_eq_true rfl] at e5
      cases e5
    have sm12' := sm1.trans sm2
    refine ⟨_, rfl, _, rfl, _, rfl, (by show 2 ≤ sizeLine; decide), fun q hq => ?_⟩
    have sm3 := sm12'.trans (same_upd (o := .tup [.int (flo (parts a b c).1 (parts a b c).2.1 (parts a b c).2.2 t), .int t]) hq)
    refine ⟨p, q, a, b, c, _, t, rfl, sm3 _ _ hp, upd_same, bigs.1, bigs.2.1, bigs.2.2, fs.mono (by decide), (smt t0 t1).mono (by decide), ?_⟩
    refine ⟨_, _, rfl, rfl, _, rfl, ite2 (fun _ => ?_) (fun e => absurd (decide_eq_true fl.2.1) e)⟩
    refine ⟨_, rfl, _, rfl, _, _, rfl, rfl, _, rfl, (by show 2 ≤ sizeLine; decide), fun q2 hq2 => ?_⟩
    have sm4 := sm3.trans (same_upd (o := .tup [.int (flo (parts a b c).1 (parts a b c).2.1 (parts a b c).2.2 t + 1), .int t]) hq2)
    refine ⟨p, q2, a, b, c, _, t, rfl, sm4 _ _ hp, upd_same, bigs.1, bigs.2.1, bigs.2.2, fs1, (smt t0 t1).mono (by decide), ?_⟩
    refine ⟨_, _, rfl, rfl, ?_⟩
    show Q (.bl (decide (side a b c (flo (parts a b c).1 (parts a b c).2.1 (parts a b c).2.2 t + 1) t < 0))) _
    rw [fl.2.2]
    exact k _ sm4
def spRight : Sp := fun vs H Q _ => ∃ c : Addr, vs = [.ref c] ∧ CupAt c H ∧ ∀ H', But c H H' → Q (.bl true) H'
/-- a thing of the list that is compared -/
def IsRes (H : Hp) (v : V) : Prop := ∃ (p : Addr) (t b : Int), v = .ref p ∧ H p = some (.tup [.int t, .int b]) ∧ ResP t b
theorem IsRes.but {c : Addr} {H H' : Hp} {v : V} (h : IsRes H v) (hc : CupAt c H) (b : But c H H') : IsRes H' v := by
  obtain ⟨p, t, x, e, hp, r⟩ := h
  exact ⟨p, t, x, e, b.tup hc hp, r⟩
theorem IsRes.same {H H' : Hp} {v : V} (h : IsRes H v) (b : Same H H') : IsRes H' v := by
  obtain ⟨p, t, x, e, hp, r⟩ := h
  exact ⟨p, t, x, e, b _ _ hp, r⟩
end
end RL

namespace RL
open PySem L2
theorem CupAt.nel {c l : Addr} {xs : List V} {H : Hp} (h : CupAt c H) (e : H l = some (.lst xs)) (n : xs.length ≠ 2) : c ≠ l := fun q => by
  obtain ⟨u, v, a, _⟩ := h
  subst q
  rw [a] at e
  cases e
  exact n rfl
theorem CupAt.butL {c l : Addr} {H H' : Hp} (h : CupAt c H) (n : c ≠ l) (b : But l H H') : CupAt c H' := by
  obtain ⟨u, v, a, r⟩ := h
  exact ⟨u, v, b _ _ n a, r⟩
theorem But.tupL {l p : Addr} {xs ys : List V} {H H' : Hp} (b : But l H H') (hl : H l = some (.lst ys)) (h : H p = some (.tup xs)) : H' p = some (.tup xs) := b _ _ (ne_of h hl (by intro z; cases z)) h
theorem ExAt.butL {C x l : Addr} {ys : List V} {H H' : Hp} {s t w : Int} (h : ExAt C H x s t w) (hl : H l = some (.lst ys)) (b : But l H H') : ExAt C H' x s t w := by
  obtain ⟨dx, p, u, v⟩ := h
  exact ⟨dx, p, b _ _ (ne_of u hl (by intro z; cases z)) u, b.tupL hl v⟩
theorem IsRes.butL {l : Addr} {ys : List V} {H H' : Hp} {v : V} (h : IsRes H v) (hl : H l = some (.lst ys)) (b : But l H H') : IsRes H' v := by
  obtain ⟨p, t, x, e, hp, r⟩ := h
  exact ⟨p, t, x, e, b.tupL hl hp, r⟩
theorem ResP.sm {t b : Int} (h : ResP t b) : Sm 1000 t ∧ Sm 1000 b := by
  rcases h with ⟨h1, h2, h3, h4⟩ | ⟨rfl, rfl⟩
  · exact ⟨sm12 h1 h2, sm12 (by omega) h4⟩
  · exact ⟨sm12 (by decide) (by decide), sm12 (by decide) (by decide)⟩
theorem due_eq {a b c s l w t y : Int} (N : Nrm a b c s l w) (h : ResP t y) : (if y = 0 then -1 else beside s l w t y) = side a b c t y := by
  split
  · rename_i z
    unfold side
    rw [if_pos z]
  · rename_i z
    rcases h with ⟨h1, h2, h3, h4⟩ | ⟨_, h2⟩
    · exact N.side h1 h3
    · exact absurd h2 z
theorem ne_self (v : Int) : ¬ (!decide (V.int v = V.int v)) = true := by
  rw [decide_eq_true rfl]
  decide
/-- however the fraction is written, the comparison is the same -/
theorem shape_cases {a b c s l w t y : Int} {H : Hp} {v : V} (N : Nrm a b c s l w) (hR : ResP t y) (h : Shape H v t y) :
    (v = .int t ∧ 0 ≤ t ∧ t ≤ 1000000000000 ∧ beside s l w t 1 = side a b c t y) ∨
    (∃ (p : Addr) (t' b' : Int), v = .ref p ∧ H p = some (.tup [.int t', .int b']) ∧ ResP t' b' ∧ (if b' = 0 then -1 else beside s l w t' b') = side a b c t y) := by
  rcases h with ⟨rfl, rfl⟩ | ⟨q, t', b', rfl, hq, hr, hh⟩
  · rcases hR with ⟨h1, h2, h3, h4⟩ | ⟨_, h2⟩
    · exact .inl ⟨rfl, h1, h2, N.side h1 h3⟩
    · cases h2
  · refine .inr ⟨q, t', b', rfl, hq, hr, ?_⟩
    rw [due_eq N hr]
    rcases hh with ⟨z1, z2⟩ | ⟨k, k1, rfl, rfl, y1⟩
    · unfold side
      rw [if_pos z1, if_pos z2]
    · exact side_same k1 y1
section
variable {P : Program} {w : World} {K : PySem.W.Frag} {mg : Str → Option Value} {base : Heap} {tG tP : Tok} {aO C : Addr}
abbrev s_law_right : Stmt := top 40
theorem sc_law_right : FnScope ["_law_cup_here", "_law_turn", "_law_three_here", "_law_mine", "_law_by", "_law_some", "_law_at", "_law_exact_here", "_law_part", "_law_due", "_law_shape"] ["_law_cup_here"] (defScope s_law_right) := ⟨rfl, rfl, rfl, by decide +kernel, rfl, by decide +kernel, by decide +kernel⟩

theorem ok_right {f : Addr} {fd : FuncData} (F : Fun K "_law_right" "_law_right" s_law_right f fd) (T : Txt2 K mg tG tP aO C) (X_exact : ExD P w K mg base C) (M_floor : Mt P w K mg base C 3 "floor" "self" "times" (spFloor C)) (M_compare : Mt P w K mg base C 4 "compare" "self" "resistance" (spCompare C))
    (D_law_sip : Df P w K mg base 1 "_law_sip" ["_law_cup_here", "_law_many"] spSip) (D_law_three : Df P w K mg base 3 "_law_three" ["_law_cup_here"] spThree) (D_law_ten : Df P w K mg base 1 "_law_ten" ["_law_figures"] spTen) (D_law_floor_right : Df P w K mg base 4 "_law_floor_right" ["_law_mine", "_law_three_here", "_law_by"] (spFloorRight C))
    (D_law_end : Df P w K mg base 2 "_law_end" ["_law_cup_here"] spEnd) (D_law_normal : Df P w K mg base 2 "_law_normal" ["_law_a", "_law_b", "_law_c"] spNormal) (D_law_side : Df P w K mg base 1 "_law_side" ["_law_three_here", "_law_pair_here"] spSide) (D_law_told : Df P w K mg base 2 "_law_told" ["_law_cup_here", "_law_pair_here"] spTold) :
    FnOk P w K mg base CX0 7 f fd ["_law_cup_here"] spRight := by
  refine F.ok sc_law_right (fun vs H Q E h => ?_) (fun cdv A outer s H vs Q E hr h => ?_)
  · obtain ⟨c, rfl, _⟩ := h
    rfl
  · obtain ⟨c, rfl, hc, k⟩ := h
    refine ⟨_, (pss_cons (ps_for PassesOwn.never rfl (pi_range1 rfl T.range (pa_cons pe_int pa_nil)) (pg_name (i := 1) sc_law_right.nd rfl (.inl rfl)) (pss_cons (ps_set (i := 2) sc_law_right.nd rfl (.inl rfl) (pe_df D_law_three (hr.mono (by decide)) (by rfl) (pa_cons (pv 0) pa_nil)))
      (pss_cons (ps_set (i := 3) sc_law_right.nd rfl (.inl rfl) (pe_exact X_exact (hr.mono (by decide)) rfl T.mgC (pa_cons (pe_ix ix_tup (pv 2) pe_int (fun _ _ => rfl)) (pa_cons (pe_ix ix_tup (pv 2) pe_int (fun _ _ => rfl)) (pa_cons (pe_ix ix_tup (pv 2) pe_int (fun _ _ => rfl)) pa_nil)))))
      (pss_cons (ps_for PassesOwn.never rfl (pi_list (pe_lst (pa_cons pe_int (pa_cons (pe_op op_add pe_int (pe_df D_law_sip (hr.mono (by decide)) (by rfl) (pa_cons (pv 0) (pa_cons pe_int pa_nil)))) (pa_cons (pe_df D_law_ten (hr.mono (by decide)) (by rfl) (pa_cons (pe_op op_add pe_int (pe_df D_law_sip (hr.mono (by decide)) (by rfl) (pa_cons (pv 0) (pa_cons pe_int pa_nil)))) pa_nil)) (pa_cons (pe_op op_pow pe_int pe_int) pa_nil)))))) (pg_name (i := 4) sc_law_right.nd rfl (.inl rfl)) (pss_one (ps_if (pt_not (pt_val (pe_df D_law_floor_right (hr.mono (by decide)) (by rfl) (pa_cons (pv 3) (pa_cons (pv 2) (pa_cons (pv 4) pa_nil)))))) (pss_one (ps_ret pe_bl)) pss_nil)))
      (pss_cons (ps_set (i := 5) sc_law_right.nd rfl (.inl rfl) (pe_lst (pa_cons (pe_df D_law_end (hr.mono (by decide)) (by rfl) (pa_cons (pv 0) pa_nil)) (pa_cons (pe_df D_law_end (hr.mono (by decide)) (by rfl) (pa_cons (pv 0) pa_nil)) (pa_cons (pe_tup (pa_cons pe_int (pa_cons pe_int pa_nil))) (pa_cons (pe_tup (pa_cons pe_int (pa_cons pe_int pa_nil))) pa_nil))))))
      (pss_cons (ps_set (i := 4) sc_law_right.nd rfl (.inl rfl) (pe_op op_add pe_int (pe_df D_law_sip (hr.mono (by decide)) (by rfl) (pa_cons (pv 0) (pa_cons (pe_op op_pow pe_int pe_int) pa_nil)))))
      (pss_cons (ps_set (i := 6) sc_law_right.nd rfl (.inl rfl) (pe_dm (pv 3) T.cl M_floor (hr.mono (by decide)) (pa_cons (pv 4) pa_nil)))
      (pss_cons (ps_set (i := 5) sc_law_right.nd rfl (.inl rfl) (pe_ifExp (pt_cmpR op_lt (pv 6) (pe_op op_pow pe_int pe_int) (nomark _)) (pe_op op_cat (pv 5) (pe_lst (pa_cons (pe_tup (pa_cons (pv 6) (pa_cons (pv 4) pa_nil))) (pa_cons (pe_tup (pa_cons (pe_op op_add (pv 6) pe_int) (pa_cons (pv 4) pa_nil))) pa_nil)))) (pv 5)))
      (pss_cons (ps_set (i := 7) sc_law_right.nd rfl (.inl rfl) (pe_df D_law_normal (hr.mono (by decide)) (by rfl) (pa_cons (pe_ix ix_tup (pv 2) pe_int (fun _ _ => rfl)) (pa_cons (pe_ix ix_tup (pv 2) pe_int (fun _ _ => rfl)) (pa_cons (pe_ix ix_tup (pv 2) pe_int (fun _ _ => rfl)) pa_nil)))))
      (pss_cons (ps_if (PW.pt (pw_and (pt_cmpR op_eq (pe_ix ix_tup (pv 7) pe_int (fun _ _ => rfl)) pe_int (nomark _)) (pw_and1 (pt_cmpR op_le (pe_callB (cr_maxT rfl) (by rfl) T.max (by decide +kernel) (pa_cons (pv 7) pa_nil)) (pe_op op_pow pe_int pe_int) (nomark _))))) (pss_one (ps_expr (pe_bm PySem.F.plainAttrs_list PySem.F.slot_list_append PySem.F.type_list_append mt_append (pv 5) (pa_cons (pe_tup (pa_cons (pe_ix ix_tup (pv 7) pe_int (fun _ _ => rfl)) (pa_cons (pe_ix ix_tup (pv 7) pe_int (fun _ _ => rfl)) pa_nil))) pa_nil)))) pss_nil)
      (pss_one (ps_for PassesOwn.never rfl (pi_list (pv 5)) (pg_name (i := 8) sc_law_right.nd rfl (.inl rfl)) (pss_cons (ps_set (i := 9) sc_law_right.nd rfl (.inl rfl) (pe_df D_law_side (hr.mono (by decide)) (by rfl) (pa_cons (pv 2) (pa_cons (pv 8) pa_nil))))
      (pss_cons (ps_set (i := 10) sc_law_right.nd rfl (.inl rfl) (pe_df D_law_told (hr.mono (by decide)) (by rfl) (pa_cons (pv 0) (pa_cons (pv 8) pa_nil))))
      (pss_one (ps_if (PW.pt (pw_or (pt_cmpR op_ne (pe_dm (pv 3) T.cl M_compare (hr.mono (by decide)) (pa_cons (pv 10) pa_nil)) (pv 9) (nomark _)) (pw_or1 (pt_cmpR op_ne (pe_mk (pv 3) T.cl M_compare (hr.mono (by decide)) (pk_cons (pv 8) pk_nil)) (pv 9) (nomark _))))) (pss_one (ps_ret pe_bl)) pss_nil))))))))))))))))
      (pss_one (ps_ret pe_bl))), ?_⟩
    refine ⟨6, rfl, by decide, by decide, ?_⟩
    refine for_range (lo := 0) (n := Int.toNat 6) (fun i σ H' => (∃ v1 v2 v3 v4 v5 v6 v7 v8 v9 v10, σ = [some (.ref c), v1, v2, v3, v4, v5, v6, v7, v8, v9, v10]) ∧ But c H H' ∧ CupAt c H') ⟨⟨none, none, none, none, none, none, none, none, none, none, rfl⟩, But.refl _ _, hc⟩ ?_ ?_
    · rintro i σ H1 hi ⟨⟨v1, v2, v3, v4, v5, v6, v7, v8, v9, v10, rfl⟩, b1, hc1⟩
      -- three = ..
      refine ⟨_, rfl, c, rfl, hc1, fun H2 p a b d b2 hc2 hp hB => ?_⟩
      obtain ⟨sa, sb, sd⟩ := hB.sm
      have N := parts_nrm hB.1
      obtain ⟨p1, p2, p3⟩ := parts_sm hB.1 sa sb sd
      have bigs : Sm 1000 a ∧ Sm 1000 b ∧ Sm 1000 d := ⟨sa.mono (by decide), sb.mono (by decide), sd.mono (by decide)⟩
      -- mine = Exact(..)
      refine ⟨_, rfl, p, _, _, _, rfl, rfl, SqT.of hp, atI_nat (j := 0) rfl, _, rfl, p, _, _, _, rfl, rfl, SqT.of hp, atI_nat (j := 1) rfl, _, rfl, p, _, _, _, rfl, rfl, SqT.of hp, atI_nat (j := 2) rfl, fun x dx nx ndx nex => ⟨x, dx, a, b, d, rfl, upd_same, hB, fun H3 b3 hE => ⟨rfl, ?_⟩⟩⟩
      have b23 : But c H2 H3 := fun y o ny e => b3 _ _ (ne_of_none e nx) (by rw [upd_ne (ne_of_none e nx), upd_ne (ne_of_none e ndx)]; exact e)
      have ncx : c ≠ x := hc2.ne nx
      have hc3 : CupAt c H3 := by
        obtain ⟨u, v, e, r⟩ := hc2
        exact ⟨u, v, b3 _ _ ncx (by rw [upd_ne ncx, upd_ne (ne_of_none e ndx)]; exact e), r⟩
      have hp3 : H3 p = some (.tup [.int a, .int b, .int d]) := b23.tup hc2 hp
      have bb3 : But c H H3 := (b1.trans b2).trans b23
      -- the list of multiples
      refine ⟨_, rfl, c, 100, rfl, hc3, by decide, (by unfold Sm; decide), fun H4 m1 b4 hc4 m10 m11 => ⟨_, _, rfl, rfl, ?_⟩⟩
      refine ⟨_, rfl, c, 30, rfl, hc4, by decide, (by unfold Sm; decide), fun H5 m2 b5 hc5 m20 m21 => ⟨_, _, rfl, rfl, (1 + m2).toNat, ?_, (by omega), ?_⟩⟩
      · rw [Int.toNat_of_nonneg (by omega)]
        rfl
      refine ⟨_, _, rfl, rfl, ⟨by decide, by decide, by decide⟩, (by show 4 ≤ sizeLine; decide), fun l hl => ?_⟩
      have e40 : (10 : Int) ^ Int.toNat 40 = 10000000000000000000000000000000000000000 := by decide
      have tenb : 1 ≤ (10 : Int) ^ (1 + m2).toNat ∧ (10 : Int) ^ (1 + m2).toNat ≤ 10000000000000000000000000000000000000000 := by
        have hn : (1 + m2).toNat ≤ 40 := by omega
        generalize (1 + m2).toNat = n at *
        have e : ((10 ^ n : Nat) : Int) = 10 ^ n := by rw [Int.natCast_pow]; rfl
        have e2 : ((10 ^ 40 : Nat) : Int) = 10000000000000000000000000000000000000000 := by decide
        have h1 : 0 < 10 ^ n := Nat.pow_pos (by decide)
        have h2 : 10 ^ n ≤ 10 ^ 40 := Nat.pow_le_pow_right (by decide) hn
        rw [← e]
        omega
      have sl := same_upd (o := .lst [.int 1, .int (1 + m1), .int (10 ^ (1 + m2).toNat), .int (10 ^ Int.toNat 40)]) hl
      have bb5 : But c H H5 := (bb3.trans b4).trans b5
      have hE5 : ExAt C H5 x (parts a b d).1 (parts a b d).2.1 (parts a b d).2.2 := (hE.but hc3 b4).but hc4 b5
      have hp5 : H5 p = some (.tup [.int a, .int b, .int d]) := b5.tup hc4 (b4.tup hc3 hp3)
      refine ⟨l, rfl, ⟨_, SqL.of upd_same⟩, for_list (K := K) (a := l) (xs := [.int 1, .int (1 + m1), .int (10 ^ (1 + m2).toNat), .int (10 ^ Int.toNat 40)]) (fun j σ H' => (∃ v4, σ = [some (.ref c), some (.int (0 + i)), some (.ref p), some (.ref x), v4, v5, v6, v7, v8, v9, v10]) ∧ Same (upd H5 l (.lst [.int 1, .int (1 + m1), .int (10 ^ (1 + m2).toNat), .int (10 ^ Int.toNat 40)])) H') ⟨⟨v4, rfl⟩, Same.refl _⟩ (fun _ _ _ _ h => SqL.of (h.2 _ _ upd_same)) ?_ ?_⟩
      · rintro j y σ H6 hj ⟨⟨u4, rfl⟩, s6⟩
        obtain ⟨t, rfl, t0, t1⟩ : ∃ t : Int, y = .int t ∧ 1 ≤ t ∧ t ≤ 10000000000000000000000000000000000000000 := by
          have hm := List.mem_of_getElem? hj
          simp only [List.mem_cons, List.not_mem_nil, or_false] at hm
          rcases hm with rfl | rfl | rfl | rfl
          · exact ⟨_, rfl, by decide, by decide⟩
          · exact ⟨_, rfl, by omega, by omega⟩
          · exact ⟨_, rfl, tenb.1, tenb.2⟩
          · exact ⟨_, rfl, by decide, by decide⟩
        have s56 := sl.trans s6
        refine ⟨_, rfl, _, rfl, _, rfl, x, p, a, b, d, t, rfl, hB, hE5.same s56, s56 _ _ hp5, t0, t1, fun H7 s7 => ⟨true, rfl, iteF ?_⟩⟩
        exact ⟨⟨_, rfl⟩, s6.trans s7⟩
      · rintro σ H6 ⟨⟨u4, rfl⟩, s6⟩
        have s56 := sl.trans s6
        have hE6 := hE5.same s56
        have hp6 := s56 _ _ hp5
        have hc6 := hc5.same s56
        have bb6 := bb5.trans (But.of s56)
        -- some = [..]
        refine ⟨_, rfl, c, rfl, hc6, fun H7 q1 t1 y1 b7 hc7 hq1 r1 => ⟨_, rfl, c, rfl, hc7, fun H8 q2 t2 y2 b8 hc8 hq2 r2 => ⟨(by show 2 ≤ sizeLine; decide), fun q3 hq3 => ⟨(by show 2 ≤ sizeLine; decide), fun q4 hq4 => ⟨(by show 4 ≤ sizeLine; decide), fun l1 hl1 => ?_⟩⟩⟩⟩⟩
        have a1 := same_upd (o := .tup [.int 1, .int 0]) hq3
        have a2 := same_upd (o := .tup [.int 0, .int 1]) hq4
        have a3 := same_upd (o := .lst [V.ref q1, V.ref q2, V.ref q3, V.ref q4]) hl1
        have a123 := (a1.trans a2).trans a3
        have hcA := hc8.same a123
        have bbA := ((bb6.trans b7).trans b8).trans (But.of a123)
        have hEA := ((hE6.but hc6 b7).but hc7 b8).same a123
        have hpA := a123 _ _ (b8.tup hc7 (b7.tup hc6 hp6))
        have u1 := a123 _ _ (b8.tup hc7 hq1)
        have u2 := a123 _ _ hq2
        have u3 := a3 _ _ (a2 _ _ (upd_same (H := H8) (a := q3) (o := .tup [.int 1, .int 0])))
        have u4' := a3 _ _ (upd_same (H := upd H8 q3 (.tup [.int 1, .int 0])) (a := q4) (o := .tup [.int 0, .int 1]))
        have hl1A : (upd (upd (upd H8 q3 (.tup [.int 1, .int 0])) q4 (.tup [.int 0, .int 1])) l1 (.lst [V.ref q1, V.ref q2, V.ref q3, V.ref q4])) l1 = some (.lst [V.ref q1, V.ref q2, V.ref q3, V.ref q4]) := upd_same
        have nl1 : H l1 = none := ((bb6.trans b7).trans b8).free ((hc8.same (a1.trans a2)).ne hl1).symm ((a1.trans a2).free hl1)
        have allA : ∀ v ∈ ([V.ref q1, V.ref q2, V.ref q3, V.ref q4] : List V), IsRes (upd (upd (upd H8 q3 (.tup [.int 1, .int 0])) q4 (.tup [.int 0, .int 1])) l1 (.lst [V.ref q1, V.ref q2, V.ref q3, V.ref q4])) v := fun v hv => by
          simp only [List.mem_cons, List.not_mem_nil, or_false] at hv
          rcases hv with rfl | rfl | rfl | rfl
          · exact ⟨_, _, _, rfl, u1, r1⟩
          · exact ⟨_, _, _, rfl, u2, r2⟩
          · exact ⟨_, _, _, rfl, u3, .inr ⟨rfl, rfl⟩⟩
          · exact ⟨_, _, _, rfl, u4', .inl (by decide)⟩
        generalize upd (upd (upd H8 q3 (.tup [.int 1, .int 0])) q4 (.tup [.int 0, .int 1])) l1 (.lst [V.ref q1, V.ref q2, V.ref q3, V.ref q4]) = HA at *
        -- by = .., at = ..
        have e6' : (10 : Int) ^ Int.toNat 6 = 1000000 := by decide
        refine ⟨_, rfl, _, _, rfl, rfl, ⟨by decide, by decide, by decide⟩, c, _, rfl, hcA, by decide, (by unfold Sm; decide), fun HB by1 bB hcB by0 byl => ⟨_, _, rfl, rfl, ?_⟩⟩
        have bbB := bbA.trans bB
        have hEB := hEA.but hcA bB
        have hpB := bB.tup hcA hpA
        have hl1B := bB _ _ (hcA.nel hl1A (show (4 : Nat) ≠ 2 by decide)).symm hl1A
        have allB : ∀ v ∈ ([V.ref q1, V.ref q2, V.ref q3, V.ref q4] : List V), IsRes HB v := fun v hv => (allA v hv).but hcA bB
        obtain ⟨dxB, ppB, hxB, hppB⟩ := id hEB
        refine ⟨_, rfl, x, dxB, _, rfl, hxB, lk_floor _, _, rfl, x, _, _, _, 1 + by1, rfl, hEB, N.good, p1.mono (by decide), p2.mono (by decide), p3.mono (by decide), by omega, by omega, fun HC sC => ?_⟩
        have fl := flo_is N.good (show 1 ≤ 1 + by1 by omega)
        have bbC := bbB.trans (But.of sC)
        have hcC := hcB.same sC
        have hEC := hEB.same sC
        have hpC := sC _ _ hpB
        have hlC := sC _ _ hl1B
        have allC : ∀ v ∈ ([V.ref q1, V.ref q2, V.ref q3, V.ref q4] : List V), IsRes HC v := fun v hv => (allB v hv).same sC
        have e12' : (10 : Int) ^ Int.toNat 12 = 1000000000000 := by decide
        refine ⟨_, rfl, _, _, rfl, rfl, ⟨by decide, by decide, by decide⟩, _, _, rfl, rfl, _, rfl, ite2 (fun e => ?_) (fun e => ?_)⟩
        · have e0 : flo (parts a b d).1 (parts a b d).2.1 (parts a b d).2.2 (1 + by1) < 10 ^ Int.toNat 12 := of_decide_eq_true e
          refine ⟨_, rfl, _, rfl, _, rfl, (by show 2 ≤ sizeLine; decide), fun q5 hq5 => ⟨_, rfl, _, _, rfl, rfl, _, rfl, (by show 2 ≤ sizeLine; decide), fun q6 hq6 => ⟨(by show 2 ≤ sizeLine; decide), fun l2 hl2 => ?_⟩⟩⟩
          have c1 := same_upd (o := .tup [.int (flo (parts a b d).1 (parts a b d).2.1 (parts a b d).2.2 (1 + by1)), .int (1 + by1)]) hq5
          have c2 := same_upd (o := .tup [.int (flo (parts a b d).1 (parts a b d).2.1 (parts a b d).2.2 (1 + by1) + 1), .int (1 + by1)]) hq6
          have c3 := same_upd (o := .lst [V.ref q5, V.ref q6]) hl2
          have c123 := (c1.trans c2).trans c3
          refine ⟨l1, l2, _, _, rfl, rfl, c123 _ _ hlC, upd_same, (by show 6 ≤ sizeLine; decide), fun l3 hl3 => ?_⟩
          have c4 := same_upd (o := .lst ([V.ref q1, V.ref q2, V.ref q3, V.ref q4] ++ [V.ref q5, V.ref q6])) hl3
          have c1234 := c123.trans c4
          have w5 := c4 _ _ (c3 _ _ (c2 _ _ (upd_same (H := HC) (a := q5) (o := .tup [.int (flo (parts a b d).1 (parts a b d).2.1 (parts a b d).2.2 (1 + by1)), .int (1 + by1)]))))
          have w6 := c4 _ _ (c3 _ _ (upd_same (H := upd HC q5 (.tup [.int (flo (parts a b d).1 (parts a b d).2.1 (parts a b d).2.2 (1 + by1)), .int (1 + by1)])) (a := q6) (o := .tup [.int (flo (parts a b d).1 (parts a b d).2.1 (parts a b d).2.2 (1 + by1) + 1), .int (1 + by1)])))
          have hLX := upd_same (H := upd (upd (upd HC q5 (.tup [.int (flo (parts a b d).1 (parts a b d).2.1 (parts a b d).2.2 (1 + by1)), .int (1 + by1)])) q6 (.tup [.int (flo (parts a b d).1 (parts a b d).2.1 (parts a b d).2.2 (1 + by1) + 1), .int (1 + by1)])) l2 (.lst [V.ref q5, V.ref q6])) (a := l3) (o := .lst ([V.ref q1, V.ref q2, V.ref q3, V.ref q4] ++ [V.ref q5, V.ref q6]))
          have hcX := hcC.same c1234
          have bbX := bbC.trans (But.of c1234)
          have hEX := hEC.same c1234
          have hpX := c1234 _ _ hpC
          have nL : H l3 = none := (bbC.trans (But.of c123)).free ((hcC.same c123).ne hl3).symm hl3
          have hnX : ([V.ref q1, V.ref q2, V.ref q3, V.ref q4] ++ [V.ref q5, V.ref q6]).length ≠ 2 := (show (6 : Nat) ≠ 2 by decide)
          have allX : ∀ v ∈ ([V.ref q1, V.ref q2, V.ref q3, V.ref q4] ++ [V.ref q5, V.ref q6] : List V), IsRes (upd (upd (upd (upd HC q5 (.tup [.int (flo (parts a b d).1 (parts a b d).2.1 (parts a b d).2.2 (1 + by1)), .int (1 + by1)])) q6 (.tup [.int (flo (parts a b d).1 (parts a b d).2.1 (parts a b d).2.2 (1 + by1) + 1), .int (1 + by1)])) l2 (.lst [V.ref q5, V.ref q6])) l3 (.lst ([V.ref q1, V.ref q2, V.ref q3, V.ref q4] ++ [V.ref q5, V.ref q6]))) v := fun v hv => by
            rcases List.mem_append.mp hv with hv | hv
            · exact (allC v hv).same c1234
            · simp only [List.mem_cons, List.not_mem_nil, or_false] at hv
              rcases hv with rfl | rfl
              · exact ⟨_, _, _, rfl, w5, .inl ⟨fl.1, by omega, by omega, by omega⟩⟩
              · exact ⟨_, _, _, rfl, w6, .inl ⟨by omega, by omega, by omega, by omega⟩⟩
          refine ⟨_, rfl, p, _, _, _, rfl, rfl, SqT.of hpX, atI_nat (j := 0) rfl, _, rfl, p, _, _, _, rfl, rfl, SqT.of hpX, atI_nat (j := 1) rfl, _, rfl, p, _, _, _, rfl, rfl, SqT.of hpX, atI_nat (j := 2) rfl, a, b, d, rfl, hB.1, sa, sb, sd, fun HN q sN hq => ?_⟩
          have hqI : SqT K HN q ([(parts a b d).1, (parts a b d).2.1, (parts a b d).2.2].map V.int) := SqT.of hq
          have hLN := sN _ _ hLX
          have hcN := hcX.same sN
          have bbN := bbX.trans (But.of sN)
          have hEN := hEX.same sN
          have hpN := sN _ _ hpX
          have allN : ∀ v ∈ ([V.ref q1, V.ref q2, V.ref q3, V.ref q4] ++ [V.ref q5, V.ref q6]), IsRes HN v := fun v hv => (allX v hv).same sN
          refine ⟨_, rfl, q, _, _, _, rfl, rfl, SqT.of hq, atI_nat (j := 0) rfl, rfl, _, rfl, ite2 (fun e => ?_) (fun e => iteF ?_)⟩
          · have e0 : (parts a b d).1 = 0 := V.int.inj (of_decide_eq_true e)
            refine ⟨_, rfl, q, _, rfl, hqI, (by show 0 < 3; decide), fun m hm hle => ⟨_, _, rfl, rfl, ⟨by decide, by decide, by decide⟩, _, _, rfl, rfl, _, rfl, ite2 (fun e2 => ?_) (fun e2 => ?_)⟩⟩
            · have e12 : (10 : Int) ^ Int.toNat 12 = 1000000000000 := by decide
              have e3 : m ≤ 10 ^ Int.toNat 12 := of_decide_eq_true e2
              have g3 : 1 ≤ (parts a b d).2.1 ∧ 0 ≤ (parts a b d).2.2 := by
                rcases N.good with g | g
                · exact g.2
                · omega
              have le1 := hle (parts a b d).2.1 (by simp)
              have le2 := hle (parts a b d).2.2 (by simp)
              refine ⟨_, rfl, .inl ⟨rfl, _, SqL.of hLN⟩, _, rfl, q, _, _, _, rfl, rfl, SqT.of hq, atI_nat (j := 2) rfl, _, rfl, q, _, _, _, rfl, rfl, SqT.of hq, atI_nat (j := 1) rfl, (by show 2 ≤ sizeLine; decide), fun qn hqn => ?_⟩
              have sq := same_upd (o := .tup [.int (parts a b d).2.2, .int (parts a b d).2.1]) hqn
              have hLq := sq _ _ hLN
              refine ⟨l3, ([V.ref q1, V.ref q2, V.ref q3, V.ref q4] ++ [V.ref q5, V.ref q6]), _, rfl, rfl, hLq, (by show 6 < sizeLine; decide), ?_⟩
              have nqL : qn ≠ l3 := (ne_of_none hLN hqn).symm
              have hLY : (upd (upd HN qn (.tup [.int (parts a b d).2.2, .int (parts a b d).2.1])) l3 (.lst (([V.ref q1, V.ref q2, V.ref q3, V.ref q4] ++ [V.ref q5, V.ref q6]) ++ [V.ref qn]))) l3 = some (.lst (([V.ref q1, V.ref q2, V.ref q3, V.ref q4] ++ [V.ref q5, V.ref q6]) ++ [V.ref qn])) := upd_same
              have hcq := hcN.same sq
              have ncL := hcq.nel hLq hnX
              have btL : But l3 (upd HN qn (.tup [.int (parts a b d).2.2, .int (parts a b d).2.1])) (upd (upd HN qn (.tup [.int (parts a b d).2.2, .int (parts a b d).2.1])) l3 (.lst (([V.ref q1, V.ref q2, V.ref q3, V.ref q4] ++ [V.ref q5, V.ref q6]) ++ [V.ref qn]))) := But.upd
              have hcY : CupAt c (upd (upd HN qn (.tup [.int (parts a b d).2.2, .int (parts a b d).2.1])) l3 (.lst (([V.ref q1, V.ref q2, V.ref q3, V.ref q4] ++ [V.ref q5, V.ref q6]) ++ [V.ref qn]))) := hcq.butL ncL btL
              have bbY := (bbN.trans (But.of sq)).new (o := .lst (([V.ref q1, V.ref q2, V.ref q3, V.ref q4] ++ [V.ref q5, V.ref q6]) ++ [V.ref qn])) nL
              have hEY := (hEN.same sq).butL hLq btL
              have hpY := btL.tupL hLq (sq _ _ hpN)
              have hnY : (([V.ref q1, V.ref q2, V.ref q3, V.ref q4] ++ [V.ref q5, V.ref q6]) ++ [V.ref qn]).length ≠ 2 := by (show (7 : Nat) ≠ 2; decide)
              have allY : ∀ v ∈ ([V.ref q1, V.ref q2, V.ref q3, V.ref q4] ++ [V.ref q5, V.ref q6]) ++ [V.ref qn], IsRes (upd (upd HN qn (.tup [.int (parts a b d).2.2, .int (parts a b d).2.1])) l3 (.lst (([V.ref q1, V.ref q2, V.ref q3, V.ref q4] ++ [V.ref q5, V.ref q6]) ++ [V.ref qn]))) v := fun v hv => by
                rcases List.mem_append.mp hv with hv | hv
                · exact ((allN v hv).same sq).butL hLq btL
                · rw [List.mem_singleton.mp hv]
                  exact ⟨qn, _, _, rfl, btL.tupL hLq upd_same, .inl ⟨g3.2, by omega, g3.1, by omega⟩⟩
              -- the comparisons
              refine ⟨_, rfl, l3, rfl, ⟨_, SqL.of hLY⟩, for_list (K := K) (a := l3) (xs := (([V.ref q1, V.ref q2, V.ref q3, V.ref q4] ++ [V.ref q5, V.ref q6]) ++ [V.ref qn])) (fun j σ H' => (∃ z8 z9 z10, σ = [some (.ref c), some (.int (0 + i)), some (.ref p), some (.ref x), some (.int (1 + by1)), some (.ref l3), some (.int (flo (parts a b d).1 (parts a b d).2.1 (parts a b d).2.2 (1 + by1))), some (.ref q), z8, z9, z10]) ∧ But c (upd (upd HN qn (.tup [.int (parts a b d).2.2, .int (parts a b d).2.1])) l3 (.lst (([V.ref q1, V.ref q2, V.ref q3, V.ref q4] ++ [V.ref q5, V.ref q6]) ++ [V.ref qn]))) H' ∧ CupAt c H') ⟨⟨v8, v9, v10, rfl⟩, But.refl _ _, hcY⟩ (fun _ _ _ _ h => SqL.of (h.2.1 _ _ (hcY.nel hLY hnY).symm hLY)) ?_ ?_⟩
              · rintro j y σ Ha hj ⟨⟨z8, z9, z10, rfl⟩, ba, hca⟩
                obtain ⟨pq, tt, bt, rfl, hpq, hres⟩ := (allY y (List.mem_of_getElem? hj)).but hcY ba
                have hpa := ba.tup hcY hpY
                have hEa := hEY.but hcY ba
                obtain ⟨dxa, ppa, hxa, hppa⟩ := id hEa
                refine ⟨_, rfl, _, rfl, p, pq, a, b, d, tt, bt, rfl, hpa, hpq, bigs.1, bigs.2.1, bigs.2.2, hres.sm.1, hres.sm.2, ?_⟩
                refine ⟨_, rfl, _, rfl, c, pq, tt, bt, rfl, hca, hpq, hres, fun Hb v bb hcb hsh => ?_⟩
                have hEb := hEa.but hca bb
                obtain ⟨dxb, ppb, hxb, hppb⟩ := id hEb
                have due : (if bt = 0 then -1 else beside (parts a b d).1 (parts a b d).2.1 (parts a b d).2.2 tt bt) = side a b d tt bt := due_eq N hres
                refine ⟨_, rfl, x, dxb, _, rfl, hxb, lk_compare _, _, rfl, x, _, _, _, v, rfl, hEb, p1.mono (by decide), p2.mono (by decide), p3.mono (by decide), ?_⟩
                rcases shape_cases N hres hsh with ⟨rfl, g1, g2, hv⟩ | ⟨q0, t0, y0, rfl, hq0, hr0, hv⟩
                · refine .inl ⟨tt, rfl, g1, g2, fun Hc sc => ?_⟩
                  rw [hv]
                  refine ⟨_, rfl, rfl, _, rfl, ite2 (fun e => absurd e (ne_self _)) (fun _ => ?_)⟩
                  have hEc := hEb.same sc
                  obtain ⟨dxc, ppc, hxc, hppc⟩ := id hEc
                  have hpc := sc _ _ (bb.tup hca hpq)
                  refine ⟨_, rfl, x, dxc, _, rfl, hxc, lk_compare _, _, rfl, x, _, _, _, _, rfl, hEc, p1.mono (by decide), p2.mono (by decide), p3.mono (by decide), .inr ⟨pq, tt, bt, rfl, hpc, hres, fun Hd sd2 => ?_⟩⟩
                  rw [due]
                  refine ⟨_, rfl, rfl, _, rfl, ite2 (fun e => absurd e (ne_self _)) (fun _ => ?_)⟩
                  exact ⟨⟨_, _, _, rfl⟩, (ba.trans bb).trans (But.of (sc.trans sd2)), hcb.same (sc.trans sd2)⟩
                · refine .inr ⟨q0, t0, y0, rfl, hq0, hr0, fun Hc sc => ?_⟩
                  rw [hv]
                  refine ⟨_, rfl, rfl, _, rfl, ite2 (fun e => absurd e (ne_self _)) (fun _ => ?_)⟩
                  have hEc := hEb.same sc
                  obtain ⟨dxc, ppc, hxc, hppc⟩ := id hEc
                  have hpc := sc _ _ (bb.tup hca hpq)
                  refine ⟨_, rfl, x, dxc, _, rfl, hxc, lk_compare _, _, rfl, x, _, _, _, _, rfl, hEc, p1.mono (by decide), p2.mono (by decide), p3.mono (by decide), .inr ⟨pq, tt, bt, rfl, hpc, hres, fun Hd sd2 => ?_⟩⟩
                  rw [due]
                  refine ⟨_, rfl, rfl, _, rfl, ite2 (fun e => absurd e (ne_self _)) (fun _ => ?_)⟩
                  exact ⟨⟨_, _, _, rfl⟩, (ba.trans bb).trans (But.of (sc.trans sd2)), hcb.same (sc.trans sd2)⟩
              · rintro σ Ha ⟨⟨z8, z9, z10, rfl⟩, ba, hca⟩
                exact ⟨⟨_, _, _, _, _, _, _, _, _, _, rfl⟩, bbY.trans ba, hca⟩
            · have hLY := hLN
              have hcY := hcN
              have bbY := bbN
              have hEY := hEN
              have hpY := hpN
              have allY := allN
              have hnY := hnX
              -- the comparisons
              refine ⟨_, rfl, l3, rfl, ⟨_, SqL.of hLY⟩, for_list (K := K) (a := l3) (xs := ([V.ref q1, V.ref q2, V.ref q3, V.ref q4] ++ [V.ref q5, V.ref q6])) (fun j σ H' => (∃ z8 z9 z10, σ = [some (.ref c), some (.int (0 + i)), some (.ref p), some (.ref x), some (.int (1 + by1)), some (.ref l3), some (.int (flo (parts a b d).1 (parts a b d).2.1 (parts a b d).2.2 (1 + by1))), some (.ref q), z8, z9, z10]) ∧ But c HN H' ∧ CupAt c H') ⟨⟨v8, v9, v10, rfl⟩, But.refl _ _, hcY⟩ (fun _ _ _ _ h => SqL.of (h.2.1 _ _ (hcY.nel hLY hnY).symm hLY)) ?_ ?_⟩
              · rintro j y σ Ha hj ⟨⟨z8, z9, z10, rfl⟩, ba, hca⟩
                obtain ⟨pq, tt, bt, rfl, hpq, hres⟩ := (allY y (List.mem_of_getElem? hj)).but hcY ba
                have hpa := ba.tup hcY hpY
                have hEa := hEY.but hcY ba
                obtain ⟨dxa, ppa, hxa, hppa⟩ := id hEa
                refine ⟨_, rfl, _, rfl, p, pq, a, b, d, tt, bt, rfl, hpa, hpq, bigs.1, bigs.2.1, bigs.2.2, hres.sm.1, hres.sm.2, ?_⟩
                refine ⟨_, rfl, _, rfl, c, pq, tt, bt, rfl, hca, hpq, hres, fun Hb v bb hcb hsh => ?_⟩
                have hEb := hEa.but hca bb
                obtain ⟨dxb, ppb, hxb, hppb⟩ := id hEb
                have due : (if bt = 0 then -1 else beside (parts a b d).1 (parts a b d).2.1 (parts a b d).2.2 tt bt) = side a b d tt bt := due_eq N hres
                refine ⟨_, rfl, x, dxb, _, rfl, hxb, lk_compare _, _, rfl, x, _, _, _, v, rfl, hEb, p1.mono (by decide), p2.mono (by decide), p3.mono (by decide), ?_⟩
                rcases shape_cases N hres hsh with ⟨rfl, g1, g2, hv⟩ | ⟨q0, t0, y0, rfl, hq0, hr0, hv⟩
                · refine .inl ⟨tt, rfl, g1, g2, fun Hc sc => ?_⟩
                  rw [hv]
                  refine ⟨_, rfl, rfl, _, rfl, ite2 (fun e => absurd e (ne_self _)) (fun _ => ?_)⟩
                  have hEc := hEb.same sc
                  obtain ⟨dxc, ppc, hxc, hppc⟩ := id hEc
                  have hpc := sc _ _ (bb.tup hca hpq)
                  refine ⟨_, rfl, x, dxc, _, rfl, hxc, lk_compare _, _, rfl, x, _, _, _, _, rfl, hEc, p1.mono (by decide), p2.mono (by decide), p3.mono (by decide), .inr ⟨pq, tt, bt, rfl, hpc, hres, fun Hd sd2 => ?_⟩⟩
                  rw [due]
                  refine ⟨_, rfl, rfl, _, rfl, ite2 (fun e => absurd e (ne_self _)) (fun _ => ?_)⟩
                  exact ⟨⟨_, _, _, rfl⟩, (ba.trans bb).trans (But.of (sc.trans sd2)), hcb.same (sc.trans sd2)⟩
                · refine .inr ⟨q0, t0, y0, rfl, hq0, hr0, fun Hc sc => ?_⟩
                  rw [hv]
                  refine ⟨_, rfl, rfl, _, rfl, ite2 (fun e => absurd e (ne_self _)) (fun _ => ?_)⟩
                  have hEc := hEb.same sc
                  obtain ⟨dxc, ppc, hxc, hppc⟩ := id hEc
                  have hpc := sc _ _ (bb.tup hca hpq)
                  refine ⟨_, rfl, x, dxc, _, rfl, hxc, lk_compare _, _, rfl, x, _, _, _, _, rfl, hEc, p1.mono (by decide), p2.mono (by decide), p3.mono (by decide), .inr ⟨pq, tt, bt, rfl, hpc, hres, fun Hd sd2 => ?_⟩⟩
                  rw [due]
                  refine ⟨_, rfl, rfl, _, rfl, ite2 (fun e => absurd e (ne_self _)) (fun _ => ?_)⟩
                  exact ⟨⟨_, _, _, rfl⟩, (ba.trans bb).trans (But.of (sc.trans sd2)), hcb.same (sc.trans sd2)⟩
              · rintro σ Ha ⟨⟨z8, z9, z10, rfl⟩, ba, hca⟩
                exact ⟨⟨_, _, _, _, _, _, _, _, _, _, rfl⟩, bbY.trans ba, hca⟩
          · have hLY := hLN
            have hcY := hcN
            have bbY := bbN
            have hEY := hEN
            have hpY := hpN
            have allY := allN
            have hnY := hnX
            -- the comparisons
            refine ⟨_, rfl, l3, rfl, ⟨_, SqL.of hLY⟩, for_list (K := K) (a := l3) (xs := ([V.ref q1, V.ref q2, V.ref q3, V.ref q4] ++ [V.ref q5, V.ref q6])) (fun j σ H' => (∃ z8 z9 z10, σ = [some (.ref c), some (.int (0 + i)), some (.ref p), some (.ref x), some (.int (1 + by1)), some (.ref l3), some (.int (flo (parts a b d).1 (parts a b d).2.1 (parts a b d).2.2 (1 + by1))), some (.ref q), z8, z9, z10]) ∧ But c HN H' ∧ CupAt c H') ⟨⟨v8, v9, v10, rfl⟩, But.refl _ _, hcY⟩ (fun _ _ _ _ h => SqL.of (h.2.1 _ _ (hcY.nel hLY hnY).symm hLY)) ?_ ?_⟩
            · rintro j y σ Ha hj ⟨⟨z8, z9, z10, rfl⟩, ba, hca⟩
              obtain ⟨pq, tt, bt, rfl, hpq, hres⟩ := (allY y (List.mem_of_getElem? hj)).but hcY ba
              have hpa := ba.tup hcY hpY
              have hEa := hEY.but hcY ba
              obtain ⟨dxa, ppa, hxa, hppa⟩ := id hEa
              refine ⟨_, rfl, _, rfl, p, pq, a, b, d, tt, bt, rfl, hpa, hpq, bigs.1, bigs.2.1, bigs.2.2, hres.sm.1, hres.sm.2, ?_⟩
              refine ⟨_, rfl, _, rfl, c, pq, tt, bt, rfl, hca, hpq, hres, fun Hb v bb hcb hsh => ?_⟩
              have hEb := hEa.but hca bb
              obtain ⟨dxb, ppb, hxb, hppb⟩ := id hEb
              have due : (if bt = 0 then -1 else beside (parts a b d).1 (parts a b d).2.1 (parts a b d).2.2 tt bt) = side a b d tt bt := due_eq N hres
              refine ⟨_, rfl, x, dxb, _, rfl, hxb, lk_compare _, _, rfl, x, _, _, _, v, rfl, hEb, p1.mono (by decide), p2.mono (by decide), p3.mono (by decide), ?_⟩
              rcases shape_cases N hres hsh with ⟨rfl, g1, g2, hv⟩ | ⟨q0, t0, y0, rfl, hq0, hr0, hv⟩
              · refine .inl ⟨tt, rfl, g1, g2, fun Hc sc => ?_⟩
                rw [hv]
                refine ⟨_, rfl, rfl, _, rfl, ite2 (fun e => absurd e (ne_self _)) (fun _ => ?_)⟩
                have hEc := hEb.same sc
                obtain ⟨dxc, ppc, hxc, hppc⟩ := id hEc
                have hpc := sc _ _ (bb.tup hca hpq)
                refine ⟨_, rfl, x, dxc, _, rfl, hxc, lk_compare _, _, rfl, x, _, _, _, _, rfl, hEc, p1.mono (by decide), p2.mono (by decide), p3.mono (by decide), .inr ⟨pq, tt, bt, rfl, hpc, hres, fun Hd sd2 => ?_⟩⟩
                rw [due]
                refine ⟨_, rfl, rfl, _, rfl, ite2 (fun e => absurd e (ne_self _)) (fun _ => ?_)⟩
                exact ⟨⟨_, _, _, rfl⟩, (ba.trans bb).trans (But.of (sc.trans sd2)), hcb.same (sc.trans sd2)⟩
              · refine .inr ⟨q0, t0, y0, rfl, hq0, hr0, fun Hc sc => ?_⟩
                rw [hv]
                refine ⟨_, rfl, rfl, _, rfl, ite2 (fun e => absurd e (ne_self _)) (fun _ => ?_)⟩
                have hEc := hEb.same sc
                obtain ⟨dxc, ppc, hxc, hppc⟩ := id hEc
                have hpc := sc _ _ (bb.tup hca hpq)
                refine ⟨_, rfl, x, dxc, _, rfl, hxc, lk_compare _, _, rfl, x, _, _, _, _, rfl, hEc, p1.mono (by decide), p2.mono (by decide), p3.mono (by decide), .inr ⟨pq, tt, bt, rfl, hpc, hres, fun Hd sd2 => ?_⟩⟩
                rw [due]
                refine ⟨_, rfl, rfl, _, rfl, ite2 (fun e => absurd e (ne_self _)) (fun _ => ?_)⟩
                exact ⟨⟨_, _, _, rfl⟩, (ba.trans bb).trans (But.of (sc.trans sd2)), hcb.same (sc.trans sd2)⟩
            · rintro σ Ha ⟨⟨z8, z9, z10, rfl⟩, ba, hca⟩
              exact ⟨⟨_, _, _, _, _, _, _, _, _, _, rfl⟩, bbY.trans ba, hca⟩
        · refine ⟨_, rfl, ?_⟩
          have hLX := hlC
          have hcX := hcC
          have bbX := bbC
          have hEX := hEC
          have hpX := hpC
          have allX := allC
          have nL := nl1
          have hnX : ([V.ref q1, V.ref q2, V.ref q3, V.ref q4] : List V).length ≠ 2 := (show (4 : Nat) ≠ 2 by decide)
          refine ⟨_, rfl, p, _, _, _, rfl, rfl, SqT.of hpX, atI_nat (j := 0) rfl, _, rfl, p, _, _, _, rfl, rfl, SqT.of hpX, atI_nat (j := 1) rfl, _, rfl, p, _, _, _, rfl, rfl, SqT.of hpX, atI_nat (j := 2) rfl, a, b, d, rfl, hB.1, sa, sb, sd, fun HN q sN hq => ?_⟩
          have hqI : SqT K HN q ([(parts a b d).1, (parts a b d).2.1, (parts a b d).2.2].map V.int) := SqT.of hq
          have hLN := sN _ _ hLX
          have hcN := hcX.same sN
          have bbN := bbX.trans (But.of sN)
          have hEN := hEX.same sN
          have hpN := sN _ _ hpX
          have allN : ∀ v ∈ [V.ref q1, V.ref q2, V.ref q3, V.ref q4], IsRes HN v := fun v hv => (allX v hv).same sN
          refine ⟨_, rfl, q, _, _, _, rfl, rfl, SqT.of hq, atI_nat (j := 0) rfl, rfl, _, rfl, ite2 (fun e => ?_) (fun e => iteF ?_)⟩
          · have e0 : (parts a b d).1 = 0 := V.int.inj (of_decide_eq_true e)
            refine ⟨_, rfl, q, _, rfl, hqI, (by show 0 < 3; decide), fun m hm hle => ⟨_, _, rfl, rfl, ⟨by decide, by decide, by decide⟩, _, _, rfl, rfl, _, rfl, ite2 (fun e2 => ?_) (fun e2 => ?_)⟩⟩
            · have e12 : (10 : Int) ^ Int.toNat 12 = 1000000000000 := by decide
              have e3 : m ≤ 10 ^ Int.toNat 12 := of_decide_eq_true e2
              have g3 : 1 ≤ (parts a b d).2.1 ∧ 0 ≤ (parts a b d).2.2 := by
                rcases N.good with g | g
                · exact g.2
                · omega
              have le1 := hle (parts a b d).2.1 (by simp)
              have le2 := hle (parts a b d).2.2 (by simp)
              refine ⟨_, rfl, .inl ⟨rfl, _, SqL.of hLN⟩, _, rfl, q, _, _, _, rfl, rfl, SqT.of hq, atI_nat (j := 2) rfl, _, rfl, q, _, _, _, rfl, rfl, SqT.of hq, atI_nat (j := 1) rfl, (by show 2 ≤ sizeLine; decide), fun qn hqn => ?_⟩
              have sq := same_upd (o := .tup [.int (parts a b d).2.2, .int (parts a b d).2.1]) hqn
              have hLq := sq _ _ hLN
              refine ⟨l1, [V.ref q1, V.ref q2, V.ref q3, V.ref q4], _, rfl, rfl, hLq, (by show 4 < sizeLine; decide), ?_⟩
              have nqL : qn ≠ l1 := (ne_of_none hLN hqn).symm
              have hLY : (upd (upd HN qn (.tup [.int (parts a b d).2.2, .int (parts a b d).2.1])) l1 (.lst ([V.ref q1, V.ref q2, V.ref q3, V.ref q4] ++ [V.ref qn]))) l1 = some (.lst ([V.ref q1, V.ref q2, V.ref q3, V.ref q4] ++ [V.ref qn])) := upd_same
              have hcq := hcN.same sq
              have ncL := hcq.nel hLq hnX
              have btL : But l1 (upd HN qn (.tup [.int (parts a b d).2.2, .int (parts a b d).2.1])) (upd (upd HN qn (.tup [.int (parts a b d).2.2, .int (parts a b d).2.1])) l1 (.lst ([V.ref q1, V.ref q2, V.ref q3, V.ref q4] ++ [V.ref qn]))) := But.upd
              have hcY : CupAt c (upd (upd HN qn (.tup [.int (parts a b d).2.2, .int (parts a b d).2.1])) l1 (.lst ([V.ref q1, V.ref q2, V.ref q3, V.ref q4] ++ [V.ref qn]))) := hcq.butL ncL btL
              have bbY := (bbN.trans (But.of sq)).new (o := .lst ([V.ref q1, V.ref q2, V.ref q3, V.ref q4] ++ [V.ref qn])) nL
              have hEY := (hEN.same sq).butL hLq btL
              have hpY := btL.tupL hLq (sq _ _ hpN)
              have hnY : ([V.ref q1, V.ref q2, V.ref q3, V.ref q4] ++ [V.ref qn]).length ≠ 2 := by (show (5 : Nat) ≠ 2; decide)
              have allY : ∀ v ∈ [V.ref q1, V.ref q2, V.ref q3, V.ref q4] ++ [V.ref qn], IsRes (upd (upd HN qn (.tup [.int (parts a b d).2.2, .int (parts a b d).2.1])) l1 (.lst ([V.ref q1, V.ref q2, V.ref q3, V.ref q4] ++ [V.ref qn]))) v := fun v hv => by
                rcases List.mem_append.mp hv with hv | hv
                · exact ((allN v hv).same sq).butL hLq btL
                · rw [List.mem_singleton.mp hv]
                  exact ⟨qn, _, _, rfl, btL.tupL hLq upd_same, .inl ⟨g3.2, by omega, g3.1, by omega⟩⟩
              -- the comparisons
              refine ⟨_, rfl, l1, rfl, ⟨_, SqL.of hLY⟩, for_list (K := K) (a := l1) (xs := ([V.ref q1, V.ref q2, V.ref q3, V.ref q4] ++ [V.ref qn])) (fun j σ H' => (∃ z8 z9 z10, σ = [some (.ref c), some (.int (0 + i)), some (.ref p), some (.ref x), some (.int (1 + by1)), some (.ref l1), some (.int (flo (parts a b d).1 (parts a b d).2.1 (parts a b d).2.2 (1 + by1))), some (.ref q), z8, z9, z10]) ∧ But c (upd (upd HN qn (.tup [.int (parts a b d).2.2, .int (parts a b d).2.1])) l1 (.lst ([V.ref q1, V.ref q2, V.ref q3, V.ref q4] ++ [V.ref qn]))) H' ∧ CupAt c H') ⟨⟨v8, v9, v10, rfl⟩, But.refl _ _, hcY⟩ (fun _ _ _ _ h => SqL.of (h.2.1 _ _ (hcY.nel hLY hnY).symm hLY)) ?_ ?_⟩
              · rintro j y σ Ha hj ⟨⟨z8, z9, z10, rfl⟩, ba, hca⟩
                obtain ⟨pq, tt, bt, rfl, hpq, hres⟩ := (allY y (List.mem_of_getElem? hj)).but hcY ba
                have hpa := ba.tup hcY hpY
                have hEa := hEY.but hcY ba
                obtain ⟨dxa, ppa, hxa, hppa⟩ := id hEa
                refine ⟨_, rfl, _, rfl, p, pq, a, b, d, tt, bt, rfl, hpa, hpq, bigs.1, bigs.2.1, bigs.2.2, hres.sm.1, hres.sm.2, ?_⟩
                refine ⟨_, rfl, _, rfl, c, pq, tt, bt, rfl, hca, hpq, hres, fun Hb v bb hcb hsh => ?_⟩
                have hEb := hEa.but hca bb
                obtain ⟨dxb, ppb, hxb, hppb⟩ := id hEb
                have due : (if bt = 0 then -1 else beside (parts a b d).1 (parts a b d).2.1 (parts a b d).2.2 tt bt) = side a b d tt bt := due_eq N hres
                refine ⟨_, rfl, x, dxb, _, rfl, hxb, lk_compare _, _, rfl, x, _, _, _, v, rfl, hEb, p1.mono (by decide), p2.mono (by decide), p3.mono (by decide), ?_⟩
                rcases shape_cases N hres hsh with ⟨rfl, g1, g2, hv⟩ | ⟨q0, t0, y0, rfl, hq0, hr0, hv⟩
                · refine .inl ⟨tt, rfl, g1, g2, fun Hc sc => ?_⟩
                  rw [hv]
                  refine ⟨_, rfl, rfl, _, rfl, ite2 (fun e => absurd e (ne_self _)) (fun _ => ?_)⟩
                  have hEc := hEb.same sc
                  obtain ⟨dxc, ppc, hxc, hppc⟩ := id hEc
                  have hpc := sc _ _ (bb.tup hca hpq)
                  refine ⟨_, rfl, x, dxc, _, rfl, hxc, lk_compare _, _, rfl, x, _, _, _, _, rfl, hEc, p1.mono (by decide), p2.mono (by decide), p3.mono (by decide), .inr ⟨pq, tt, bt, rfl, hpc, hres, fun Hd sd2 => ?_⟩⟩
                  rw [due]
                  refine ⟨_, rfl, rfl, _, rfl, ite2 (fun e => absurd e (ne_self _)) (fun _ => ?_)⟩
                  exact ⟨⟨_, _, _, rfl⟩, (ba.trans bb).trans (But.of (sc.trans sd2)), hcb.same (sc.trans sd2)⟩
                · refine .inr ⟨q0, t0, y0, rfl, hq0, hr0, fun Hc sc => ?_⟩
                  rw [hv]
                  refine ⟨_, rfl, rfl, _, rfl, ite2 (fun e => absurd e (ne_self _)) (fun _ => ?_)⟩
                  have hEc := hEb.same sc
                  obtain ⟨dxc, ppc, hxc, hppc⟩ := id hEc
                  have hpc := sc _ _ (bb.tup hca hpq)
                  refine ⟨_, rfl, x, dxc, _, rfl, hxc, lk_compare _, _, rfl, x, _, _, _, _, rfl, hEc, p1.mono (by decide), p2.mono (by decide), p3.mono (by decide), .inr ⟨pq, tt, bt, rfl, hpc, hres, fun Hd sd2 => ?_⟩⟩
                  rw [due]
                  refine ⟨_, rfl, rfl, _, rfl, ite2 (fun e => absurd e (ne_self _)) (fun _ => ?_)⟩
                  exact ⟨⟨_, _, _, rfl⟩, (ba.trans bb).trans (But.of (sc.trans sd2)), hcb.same (sc.trans sd2)⟩
              · rintro σ Ha ⟨⟨z8, z9, z10, rfl⟩, ba, hca⟩
                exact ⟨⟨_, _, _, _, _, _, _, _, _, _, rfl⟩, bbY.trans ba, hca⟩
            · have hLY := hLN
              have hcY := hcN
              have bbY := bbN
              have hEY := hEN
              have hpY := hpN
              have allY := allN
              have hnY := hnX
              -- the comparisons
              refine ⟨_, rfl, l1, rfl, ⟨_, SqL.of hLY⟩, for_list (K := K) (a := l1) (xs := [V.ref q1, V.ref q2, V.ref q3, V.ref q4]) (fun j σ H' => (∃ z8 z9 z10, σ = [some (.ref c), some (.int (0 + i)), some (.ref p), some (.ref x), some (.int (1 + by1)), some (.ref l1), some (.int (flo (parts a b d).1 (parts a b d).2.1 (parts a b d).2.2 (1 + by1))), some (.ref q), z8, z9, z10]) ∧ But c HN H' ∧ CupAt c H') ⟨⟨v8, v9, v10, rfl⟩, But.refl _ _, hcY⟩ (fun _ _ _ _ h => SqL.of (h.2.1 _ _ (hcY.nel hLY hnY).symm hLY)) ?_ ?_⟩
              · rintro j y σ Ha hj ⟨⟨z8, z9, z10, rfl⟩, ba, hca⟩
                obtain ⟨pq, tt, bt, rfl, hpq, hres⟩ := (allY y (List.mem_of_getElem? hj)).but hcY ba
                have hpa := ba.tup hcY hpY
                have hEa := hEY.but hcY ba
                obtain ⟨dxa, ppa, hxa, hppa⟩ := id hEa
                refine ⟨_, rfl, _, rfl, p, pq, a, b, d, tt, bt, rfl, hpa, hpq, bigs.1, bigs.2.1, bigs.2.2, hres.sm.1, hres.sm.2, ?_⟩
                refine ⟨_, rfl, _, rfl, c, pq, tt, bt, rfl, hca, hpq, hres, fun Hb v bb hcb hsh => ?_⟩
                have hEb := hEa.but hca bb
                obtain ⟨dxb, ppb, hxb, hppb⟩ := id hEb
                have due : (if bt = 0 then -1 else beside (parts a b d).1 (parts a b d).2.1 (parts a b d).2.2 tt bt) = side a b d tt bt := due_eq N hres
                refine ⟨_, rfl, x, dxb, _, rfl, hxb, lk_compare _, _, rfl, x, _, _, _, v, rfl, hEb, p1.mono (by decide), p2.mono (by decide), p3.mono (by decide), ?_⟩
                rcases shape_cases N hres hsh with ⟨rfl, g1, g2, hv⟩ | ⟨q0, t0, y0, rfl, hq0, hr0, hv⟩
                · refine .inl ⟨tt, rfl, g1, g2, fun Hc sc => ?_⟩
                  rw [hv]
                  refine ⟨_, rfl, rfl, _, rfl, ite2 (fun e => absurd e (ne_self _)) (fun _ => ?_)⟩
                  have hEc := hEb.same sc
                  obtain ⟨dxc, ppc, hxc, hppc⟩ := id hEc
                  have hpc := sc _ _ (bb.tup hca hpq)
                  refine ⟨_, rfl, x, dxc, _, rfl, hxc, lk_compare _, _, rfl, x, _, _, _, _, rfl, hEc, p1.mono (by decide), p2.mono (by decide), p3.mono (by decide), .inr ⟨pq, tt, bt, rfl, hpc, hres, fun Hd sd2 => ?_⟩⟩
                  rw [due]
                  refine ⟨_, rfl, rfl, _, rfl, ite2 (fun e => absurd e (ne_self _)) (fun _ => ?_)⟩
                  exact ⟨⟨_, _, _, rfl⟩, (ba.trans bb).trans (But.of (sc.trans sd2)), hcb.same (sc.trans sd2)⟩
                · refine .inr ⟨q0, t0, y0, rfl, hq0, hr0, fun Hc sc => ?_⟩
                  rw [hv]
                  refine ⟨_, rfl, rfl, _, rfl, ite2 (fun e => absurd e (ne_self _)) (fun _ => ?_)⟩
                  have hEc := hEb.same sc
                  obtain ⟨dxc, ppc, hxc, hppc⟩ := id hEc
                  have hpc := sc _ _ (bb.tup hca hpq)
                  refine ⟨_, rfl, x, dxc, _, rfl, hxc, lk_compare _, _, rfl, x, _, _, _, _, rfl, hEc, p1.mono (by decide), p2.mono (by decide), p3.mono (by decide), .inr ⟨pq, tt, bt, rfl, hpc, hres, fun Hd sd2 => ?_⟩⟩
                  rw [due]
                  refine ⟨_, rfl, rfl, _, rfl, ite2 (fun e => absurd e (ne_self _)) (fun _ => ?_)⟩
                  exact ⟨⟨_, _, _, rfl⟩, (ba.trans bb).trans (But.of (sc.trans sd2)), hcb.same (sc.trans sd2)⟩
              · rintro σ Ha ⟨⟨z8, z9, z10, rfl⟩, ba, hca⟩
                exact ⟨⟨_, _, _, _, _, _, _, _, _, _, rfl⟩, bbY.trans ba, hca⟩
          · have hLY := hLN
            have hcY := hcN
            have bbY := bbN
            have hEY := hEN
            have hpY := hpN
            have allY := allN
            have hnY := hnX
            -- the comparisons
            refine ⟨_, rfl, l1, rfl, ⟨_, SqL.of hLY⟩, for_list (K := K) (a := l1) (xs := [V.ref q1, V.ref q2, V.ref q3, V.ref q4]) (fun j σ H' => (∃ z8 z9 z10, σ = [some (.ref c), some (.int (0 + i)), some (.ref p), some (.ref x), some (.int (1 + by1)), some (.ref l1), some (.int (flo (parts a b d).1 (parts a b d).2.1 (parts a b d).2.2 (1 + by1))), some (.ref q), z8, z9, z10]) ∧ But c HN H' ∧ CupAt c H') ⟨⟨v8, v9, v10, rfl⟩, But.refl _ _, hcY⟩ (fun _ _ _ _ h => SqL.of (h.2.1 _ _ (hcY.nel hLY hnY).symm hLY)) ?_ ?_⟩
            · rintro j y σ Ha hj ⟨⟨z8, z9, z10, rfl⟩, ba, hca⟩
              obtain ⟨pq, tt, bt, rfl, hpq, hres⟩ := (allY y (List.mem_of_getElem? hj)).but hcY ba
              have hpa := ba.tup hcY hpY
              have hEa := hEY.but hcY ba
              obtain ⟨dxa, ppa, hxa, hppa⟩ := id hEa
              refine ⟨_, rfl, _, rfl, p, pq, a, b, d, tt, bt, rfl, hpa, hpq, bigs.1, bigs.2.1, bigs.2.2, hres.sm.1, hres.sm.2, ?_⟩
              refine ⟨_, rfl, _, rfl, c, pq, tt, bt, rfl, hca, hpq, hres, fun Hb v bb hcb hsh => ?_⟩
              have hEb := hEa.but hca bb
              obtain ⟨dxb, ppb, hxb, hppb⟩ := id hEb
              have due : (if bt = 0 then -1 else beside (parts a b d).1 (parts a b d).2.1 (parts a b d).2.2 tt bt) = side a b d tt bt := due_eq N hres
              refine ⟨_, rfl, x, dxb, _, rfl, hxb, lk_compare _, _, rfl, x, _, _, _, v, rfl, hEb, p1.mono (by decide), p2.mono (by decide), p3.mono (by decide), ?_⟩
              rcases shape_cases N hres hsh with ⟨rfl, g1, g2, hv⟩ | ⟨q0, t0, y0, rfl, hq0, hr0, hv⟩
              · refine .inl ⟨tt, rfl, g1, g2, fun Hc sc => ?_⟩
                rw [hv]
                refine ⟨_, rfl, rfl, _, rfl, ite2 (fun e => absurd e (ne_self _)) (fun _ => ?_)⟩
                have hEc := hEb.same sc
                obtain ⟨dxc, ppc, hxc, hppc⟩ := id hEc
                have hpc := sc _ _ (bb.tup hca hpq)
                refine ⟨_, rfl, x, dxc, _, rfl, hxc, lk_compare _, _, rfl, x, _, _, _, _, rfl, hEc, p1.mono (by decide), p2.mono (by decide), p3.mono (by decide), .inr ⟨pq, tt, bt, rfl, hpc, hres, fun Hd sd2 => ?_⟩⟩
                rw [due]
                refine ⟨_, rfl, rfl, _, rfl, ite2 (fun e => absurd e (ne_self _)) (fun _ => ?_)⟩
                exact ⟨⟨_, _, _, rfl⟩, (ba.trans bb).trans (But.of (sc.trans sd2)), hcb.same (sc.trans sd2)⟩
              · refine .inr ⟨q0, t0, y0, rfl, hq0, hr0, fun Hc sc => ?_⟩
                rw [hv]
                refine ⟨_, rfl, rfl, _, rfl, ite2 (fun e => absurd e (ne_self _)) (fun _ => ?_)⟩
                have hEc := hEb.same sc
                obtain ⟨dxc, ppc, hxc, hppc⟩ := id hEc
                have hpc := sc _ _ (bb.tup hca hpq)
                refine ⟨_, rfl, x, dxc, _, rfl, hxc, lk_compare _, _, rfl, x, _, _, _, _, rfl, hEc, p1.mono (by decide), p2.mono (by decide), p3.mono (by decide), .inr ⟨pq, tt, bt, rfl, hpc, hres, fun Hd sd2 => ?_⟩⟩
                rw [due]
                refine ⟨_, rfl, rfl, _, rfl, ite2 (fun e => absurd e (ne_self _)) (fun _ => ?_)⟩
                exact ⟨⟨_, _, _, rfl⟩, (ba.trans bb).trans (But.of (sc.trans sd2)), hcb.same (sc.trans sd2)⟩
            · rintro σ Ha ⟨⟨z8, z9, z10, rfl⟩, ba, hca⟩
              exact ⟨⟨_, _, _, _, _, _, _, _, _, _, rfl⟩, bbY.trans ba, hca⟩
    · rintro σ H' ⟨⟨v1, v2, v3, v4, v5, v6, v7, v8, v9, v10, rfl⟩, b1, hc1⟩
      exact k _ b1
end
end RL

namespace RL
open PySem L2
def spLaw (K : PySem.W.Frag) : Sp := fun vs H Q _ => ∃ (a : Addr) (ns : List Int), vs = [.ref a] ∧ SqL K H a (ns.map V.int) ∧ ns.length ≤ 63 ∧ ∀ H', Q (.bl true) H'
section
variable {P : Program} {w : World} {K : PySem.W.Frag} {mg : Str → Option Value} {base : Heap} {tG tP : Tok} {aO C : Addr}
theorem gold : parts 1 (-1) 1 = (1, -1, 1) := by decide
theorem p023 : parts 0 2 3 = (0, 2, 3) := by decide
theorem p010 : parts 0 1 0 = (0, 1, 0) := by decide
theorem p409 : parts 4 0 9 = (0, 2, 3) := by
  have h : rt (0 * 0 + 4 * 4 * 9) = 12 := (rt_of (show IsRt (0 * 0 + 4 * 4 * 9) 12 by unfold IsRt; decide)).symm
  unfold parts
  rw [if_neg (by decide), h]
  decide
theorem gold20 : flo 1 (-1) 1 100000000000000000000 = 161803398874989484820 := by
  have h : rt (100000000000000000000 * 100000000000000000000 * (-1 * -1 + 4 * 1 * 1)) = 223606797749978969640 := (rt_of (show IsRt (100000000000000000000 * 100000000000000000000 * (-1 * -1 + 4 * 1 * 1)) 223606797749978969640 by unfold IsRt; decide)).symm
  unfold flo
  rw [if_neg (by decide), h]
  decide
theorem made_same {H H1 : Hp} {x dx C : Addr} (nx : H x = none) (ndx : H dx = none) (b : But x (upd (upd H dx (.own x)) x (.ins C dx [])) H1) : Same H H1 := fun y o e =>
  b _ _ (ne_of_none e nx) (by rw [upd_ne (ne_of_none e nx), upd_ne (ne_of_none e ndx)]; exact e)
theorem seq_but {K : PySem.W.Frag} {H H' : Hp} {D a : Addr} {xs : List V} (h : SqL K H a xs) (n : H D = none) (b : But D H H') : SqL K H' a xs := by
  rcases h with (h | ⟨o, h⟩) | h
  · exact .inl (.inl (b _ _ (ne_of_none h n) h))
  · exact .inl (.inr ⟨o, b _ _ (ne_of_none h n) h⟩)
  · exact .inr h
abbrev s_law : Stmt := top 41
theorem sc_law : FnScope ["_law_script", "_law_mine", "_law_told_here", "_law_spot"] ["_law_script"] (defScope s_law) := ⟨rfl, rfl, rfl, by decide +kernel, rfl, by decide +kernel, by decide +kernel⟩

theorem ok_law {f : Addr} {fd : FuncData} (F : Fun K "law" "law" s_law f fd) (T : Txt2 K mg tG tP aO C) (X_exact : ExD P w K mg base C) (M_floor : Mt P w K mg base C 3 "floor" "self" "times" (spFloor C)) (M_compare : Mt P w K mg base C 4 "compare" "self" "resistance" (spCompare C))
    (D_law_cup : Df P w K mg base 1 "_law_cup" ["_law_script", "_law_spot"] (spCup K)) (D_law_right : Df P w K mg base 7 "_law_right" ["_law_cup_here"] spRight) : FnOk P w K mg base CX0 8 f fd ["_law_script"] (spLaw K) := by
  refine F.ok sc_law (fun vs H Q E h => ?_) (fun cdv A outer s H vs Q E hr h => ?_)
  · obtain ⟨a, ns, rfl, _⟩ := h
    rfl
  · obtain ⟨a, ns, rfl, hS, hlen, k⟩ := h
    refine ⟨_, (pss_cons (ps_set (i := 1) sc_law.nd rfl (.inl rfl) (pe_exact X_exact (hr.mono (by decide)) rfl T.mgC (pa_cons pe_int (pa_cons (pe_un un_neg pe_int) (pa_cons pe_int pa_nil)))))
      (pss_cons (ps_set (i := 2) sc_law.nd rfl (.inl rfl) (pe_lst (pa_cons (pe_dm (pv 1) T.cl M_compare (hr.mono (by decide)) (pa_cons (pe_tup (pa_cons pe_int (pa_cons pe_int pa_nil))) pa_nil)) (pa_cons (pe_dm (pv 1) T.cl M_compare (hr.mono (by decide)) (pa_cons (pe_tup (pa_cons pe_int (pa_cons pe_int pa_nil))) pa_nil)) (pa_cons (pe_dm (pv 1) T.cl M_compare (hr.mono (by decide)) (pa_cons pe_int pa_nil)) (pa_cons (pe_dm (pv 1) T.cl M_compare (hr.mono (by decide)) (pa_cons (pe_tup (pa_cons pe_int (pa_cons pe_int pa_nil))) pa_nil)) (pa_cons (pe_dm (pv 1) T.cl M_floor (hr.mono (by decide)) (pa_cons (pe_op op_pow pe_int pe_int) pa_nil)) pa_nil)))))))
      (pss_cons (ps_if (pt_cmpR (op_neD hr.units) (pv 2) (pe_lst (pa_cons (pe_un un_neg pe_int) (pa_cons pe_int (pa_cons (pe_un un_neg pe_int) (pa_cons (pe_un un_neg pe_int) (pa_cons pe_int pa_nil)))))) (nomark _)) (pss_one (ps_ret pe_bl)) pss_nil)
      (pss_cons (ps_if (pt_cmpR (op_neD hr.units) (pe_lst (pa_cons (pe_dm (pe_exact X_exact (hr.mono (by decide)) rfl T.mgC (pa_cons pe_int (pa_cons pe_int (pa_cons pe_int pa_nil)))) T.cl M_compare (hr.mono (by decide)) (pa_cons (pe_tup (pa_cons pe_int (pa_cons pe_int pa_nil))) pa_nil)) (pa_cons (pe_dm (pe_exact X_exact (hr.mono (by decide)) rfl T.mgC (pa_cons pe_int (pa_cons pe_int (pa_cons pe_int pa_nil)))) T.cl M_compare (hr.mono (by decide)) (pa_cons pe_int pa_nil)) (pa_cons (pe_dm (pe_exact X_exact (hr.mono (by decide)) rfl T.mgC (pa_cons pe_int (pa_cons pe_int (pa_cons pe_int pa_nil)))) T.cl M_compare (hr.mono (by decide)) (pa_cons (pe_tup (pa_cons pe_int (pa_cons pe_int pa_nil))) pa_nil)) pa_nil)))) (pe_lst (pa_cons pe_int (pa_cons pe_int (pa_cons pe_int pa_nil)))) (nomark _)) (pss_one (ps_ret pe_bl)) pss_nil)
      (pss_one (ps_ret (pe_callB (cr_all rfl) (by rfl) T.all (by decide +kernel) (pa_cons (pe_lc (own := [("_law_spot", 3)]) (g := gName 3) (tt := tYes) rfl sc_law.nd (pi_range1 rfl T.range (pa_cons (pe_callB (call_max2 rfl) (by rfl) T.max (by decide +kernel) (pa_cons pe_int (pa_cons (pe_callB (call_min2 rfl) (by rfl) T.min (by decide +kernel) (pa_cons (pe_callB call_len_seq (by rfl) T.len (by decide +kernel) (pa_cons (pv 0) pa_nil)) (pa_cons pe_int pa_nil))) pa_nil))) pa_nil)) (blkOk_by (N := ["_law_script", "_law_mine", "_law_told_here", "_law_spot"]) (sc := defScope s_law) (by decide +kernel)) (fun _ _ _ _ _ => pg_name (i := 3) sc_law.nd rfl (Or.inl rfl)) (fun _ _ _ _ _ => pts_nil) (fun _ _ _ _ _ => (pe_df D_law_right (hr.mono (by decide)) (by rfl) (pa_cons (pe_df D_law_cup (hr.mono (by decide)) (by rfl) (pa_cons (pv 0) (pa_cons (pv 3) pa_nil))) pa_nil)))) pa_nil)))))))), ?_⟩
    have e20 : (10 : Int) ^ Int.toNat 20 = 100000000000000000000 := by decide
    have sk : ∀ n : Nat, n < 4 → Sm 1000 (n : Int) ∧ Sm 1000 (-(n : Int)) ∧ Sm 400 (n : Int) ∧ Sm 400 (-(n : Int)) := fun n hn => by
      have q : Sm 3 (n : Int) ∧ Sm 3 (-(n : Int)) := by unfold Sm; omega
      exact ⟨q.1.mono (by decide), q.2.mono (by decide), q.1.mono (by decide), q.2.mono (by decide)⟩
    have k0 := sk 0 (by decide)
    have k1 := sk 1 (by decide)
    have k2 := sk 2 (by decide)
    have k3 := sk 3 (by decide)
    -- mine = Exact(1, -1, 1)
    refine ⟨1, rfl, fun x dx nx ndx nex => ⟨x, dx, 1, -1, 1, rfl, upd_same, ⟨.inr ⟨by decide, by decide⟩, by decide, by decide, by decide, by decide⟩, fun H1 b1 hE1 => ⟨rfl, ?_⟩⟩⟩
    have s1 : Same H H1 := made_same nx ndx b1
    rw [gold] at hE1
    obtain ⟨dx1, pp1, hx1, hpp1⟩ := id hE1
    refine ⟨_, rfl, x, dx1, _, rfl, hx1, lk_compare _, (by show 2 ≤ sizeLine; decide), fun q1 hq1 => ?_⟩
    have n1 := same_upd (o := .tup [.int 13, .int 8]) hq1
    have hE2 := hE1.same n1
    refine ⟨x, _, _, _, _, rfl, hE2, k1.1, k1.2.1, k1.1, .inr ⟨q1, 13, 8, rfl, upd_same, .inl (by decide), fun H2 s2 => ?_⟩⟩
    have t2 := (s1.trans n1).trans s2
    have hE3 := hE2.same s2
    obtain ⟨dx3, pp3, hx3, hpp3⟩ := id hE3
    refine ⟨_, rfl, x, dx3, _, rfl, hx3, lk_compare _, (by show 2 ≤ sizeLine; decide), fun q2 hq2 => ?_⟩
    have n2 := same_upd (o := .tup [.int 8, .int 5]) hq2
    have hE4 := hE3.same n2
    refine ⟨x, _, _, _, _, rfl, hE4, k1.1, k1.2.1, k1.1, .inr ⟨q2, 8, 5, rfl, upd_same, .inl (by decide), fun H3 s3 => ?_⟩⟩
    have t3 := (t2.trans n2).trans s3
    have hE5 := hE4.same s3
    obtain ⟨dx5, pp5, hx5, hpp5⟩ := id hE5
    refine ⟨_, rfl, x, dx5, _, rfl, hx5, lk_compare _, x, _, _, _, _, rfl, hE5, k1.1, k1.2.1, k1.1, .inl ⟨2, rfl, by decide, by decide, fun H4 s4 => ?_⟩⟩
    have t4 := t3.trans s4
    have hE6 := hE5.same s4
    obtain ⟨dx6, pp6, hx6, hpp6⟩ := id hE6
    refine ⟨_, rfl, x, dx6, _, rfl, hx6, lk_compare _, (by show 2 ≤ sizeLine; decide), fun q3 hq3 => ?_⟩
    have n3 := same_upd (o := .tup [.int 1, .int 0]) hq3
    have hE7 := hE6.same n3
    refine ⟨x, _, _, _, _, rfl, hE7, k1.1, k1.2.1, k1.1, .inr ⟨q3, 1, 0, rfl, upd_same, .inr ⟨rfl, rfl⟩, fun H5 s5 => ?_⟩⟩
    have t5 := (t4.trans n3).trans s5
    have hE8 := hE7.same s5
    obtain ⟨dx8, pp8, hx8, hpp8⟩ := id hE8
    refine ⟨_, rfl, x, dx8, _, rfl, hx8, lk_floor _, _, _, rfl, rfl, ⟨by decide, by decide, by decide⟩, x, _, _, _, 100000000000000000000, congrArg (fun z => [V.ref x, V.int z]) e20, hE8, .inr ⟨by decide, by decide⟩, k1.2.2.1, k1.2.2.2, k1.2.2.1, by decide, by decide, fun H6 s6 => ?_⟩
    have g20 : flo (1, (-1 : Int), (1 : Int)).1 (1, (-1 : Int), (1 : Int)).2.1 (1, (-1 : Int), (1 : Int)).2.2 100000000000000000000 = 161803398874989484820 := gold20
    rw [g20]
    have t6 := t5.trans s6
    refine ⟨(by show 5 ≤ sizeLine; decide), fun l1 hl1 => ?_⟩
    have n6 := fun o => same_upd (o := o) hl1
    refine ⟨_, rfl, 1, rfl, 1, rfl, 1, rfl, (by show 5 ≤ sizeLine; decide), fun l2 hl2 => ?_⟩
    refine ⟨_, _, .lst (SqL.of (same_upd hl2 _ _ upd_same)) (.cons (.int _) (.cons (.int _) (.cons (.int _) (.cons (.int _) (.cons (.int _) .nil))))), .lst (SqL.of upd_same) (.cons (.int _) (.cons (.int _) (.cons (.int _) (.cons (.int _) (.cons (.int _) .nil))))), rfl, rfl, _, rfl, ite2 (fun e => absurd e (by decide)) (fun _ => ?_)⟩
    have t7 := fun o2 => t6.trans ((same_upd hl1).trans (same_upd (o := o2) hl2))
    -- Exact(0, 2, 3).compare((6, 4))
    refine fun xa da nxa nda nea => ⟨xa, da, 0, 2, 3, rfl, upd_same, ⟨.inl ⟨rfl, by decide, by decide⟩, by decide, by decide, by decide, by decide⟩, fun Ha ba hEa => ⟨rfl, ?_⟩⟩
    have ta := (t7 _).trans (made_same nxa nda ba)
    rw [p023] at hEa
    obtain ⟨dxa, ppa, hxa, hppa⟩ := id hEa
    refine ⟨xa, dxa, _, rfl, hxa, lk_compare _, (by show 2 ≤ sizeLine; decide), fun qa hqa => ?_⟩
    have na := same_upd (o := .tup [.int 6, .int 4]) hqa
    refine ⟨xa, _, _, _, _, rfl, hEa.same na, k0.1, k2.1, k3.1, .inr ⟨qa, 6, 4, rfl, upd_same, .inl (by decide), fun Hb sb => ?_⟩⟩
    have tb := (ta.trans na).trans sb
    -- Exact(0, 1, 0).compare(0)
    refine fun xb db nxb ndb neb => ⟨xb, db, 0, 1, 0, rfl, upd_same, ⟨.inl ⟨rfl, by decide, by decide⟩, by decide, by decide, by decide, by decide⟩, fun Hc bc hEc => ⟨rfl, ?_⟩⟩
    have tc := tb.trans (made_same nxb ndb bc)
    rw [p010] at hEc
    obtain ⟨dxc, ppc, hxc, hppc⟩ := id hEc
    refine ⟨xb, dxc, _, rfl, hxc, lk_compare _, xb, _, _, _, _, rfl, hEc, k0.1, k1.1, k0.1, .inl ⟨0, rfl, by decide, by decide, fun Hd sd => ?_⟩⟩
    have td := tc.trans sd
    -- Exact(4, 0, 9).compare((3, 2))
    refine fun xe de nxe nde nee => ⟨xe, de, 4, 0, 9, rfl, upd_same, ⟨.inr ⟨by decide, by decide⟩, by decide, by decide, by decide, by decide⟩, fun He be hEe => ⟨rfl, ?_⟩⟩
    have te := td.trans (made_same nxe nde be)
    rw [p409] at hEe
    obtain ⟨dxe, ppe, hxe, hppe⟩ := id hEe
    refine ⟨xe, dxe, _, rfl, hxe, lk_compare _, (by show 2 ≤ sizeLine; decide), fun qe hqe => ?_⟩
    have ne := same_upd (o := .tup [.int 3, .int 2]) hqe
    refine ⟨xe, _, _, _, _, rfl, hEe.same ne, k0.1, k2.1, k3.1, .inr ⟨qe, 3, 2, rfl, upd_same, .inl (by decide), fun Hf sf => ?_⟩⟩
    have tf := (te.trans ne).trans sf
    refine ⟨(by show 3 ≤ sizeLine; decide), fun l3 hl3 => ⟨(by show 3 ≤ sizeLine; decide), fun l4 hl4 => ?_⟩⟩
    refine ⟨_, _, .lst (SqL.of (same_upd hl4 _ _ upd_same)) (.cons (.int _) (.cons (.int _) (.cons (.int _) .nil))), .lst (SqL.of upd_same) (.cons (.int _) (.cons (.int _) (.cons (.int _) .nil))), rfl, rfl, _, rfl, ite2 (fun e => absurd e (by decide)) (fun _ => ?_)⟩
    have tg := (fun o2 => tf.trans ((same_upd hl3).trans (same_upd (o := o2) hl4))) (.lst [.int 0, .int 0, .int 0])
    have hSg := tg.seq hS
    -- all([..])
    refine ⟨_, rfl, a, _, rfl, .inl hSg, _, _, rfl, _, _, rfl, _, rfl, ?_, ?_, fun D hD => ?_⟩
    · split <;> split <;> omega
    · have : (List.map V.int ns).length = ns.length := List.length_map ..
      split <;> split <;> omega
    · refine lc_range (lo := 0) (fun i H' => But D _ H' ∧ H' D = some (.lst (List.replicate i (.bl true)))) ⟨But.upd, upd_same⟩ ?_ ?_
      · rintro i H1' hi ⟨bD, hDi⟩
        have hi63 : i ≤ 100 := by
          have : (List.map V.int ns).length = ns.length := List.length_map ..
          split at hi <;> split at hi <;> omega
        refine ⟨rfl, ?_⟩
        unfold tYes
        refine iteT ?_
        refine ⟨_, rfl, _, rfl, a, ns, i, ?_, seq_but hSg hD bD, hi63, hlen, fun H2' c sc nc hc => ?_⟩
        · show [V.ref a, V.int (0 + (i : Int))] = _
          rw [Int.zero_add]
        refine ⟨c, rfl, hc, fun H3' b3 => ?_⟩
        have nDc : D ≠ c := ne_of_none hDi nc
        refine ⟨_, b3 _ _ nDc (sc _ _ hDi), ?_, ?_, ?_⟩
        · rw [List.length_replicate]
          exact small1000 (by omega)
        · intro y o ny e
          rw [upd_ne ny]
          have hy1 := bD _ _ ny e
          exact b3 _ _ (ne_of_none hy1 nc) (sc _ _ hy1)
        · rw [upd_same, List.replicate_succ']
      · rintro H1' ⟨bD, hDn⟩
        refine ⟨D, List.replicate _ true, rfl, SqL.of (by rw [List.map_replicate]; exact hDn), ?_⟩
        have ea : ∀ n : Nat, (List.replicate n true).all id = true := fun n => by
          rw [List.all_eq_true]
          intro z hz
          rw [List.eq_of_mem_replicate hz]
          rfl
        rw [ea]
        exact k _
end
end RL

namespace RL
open PySem L2
set_option maxHeartbeats 4000000 in
theorem all_mk {l : PySem.W.OpenLaw} {w : World} {K : PySem.W.Frag} {h : Heap} {mg : Str → Option Value} (X : K.In h) (G : h.Ns mainGlobals mg) {fa C aO : Addr} {f_is_integer f_is_integer_within f_is_pair_of_integers f_is_resistance f_pair_of f_common_divisor f_lowest_terms f_sign f_square_root f_under_root f_floor_of f_equation_of_fraction f_simplest_equation f_beside_fraction f_law_cup f_law_sip f_law_pick f_law_pair f_law_end f_law_told f_law_ten f_law_root f_law_normal f_law_side f_law_three f_law_floor_right f_law_right f_law f_Exact_init f_Exact_compare f_Exact_floor : Addr}
    {od_is_integer an_is_integer od_is_integer_within an_is_integer_within od_is_pair_of_integers an_is_pair_of_integers od_is_resistance an_is_resistance od_pair_of an_pair_of od_common_divisor an_common_divisor od_lowest_terms an_lowest_terms od_sign an_sign od_square_root an_square_root od_under_root an_under_root od_floor_of an_floor_of od_equation_of_fraction an_equation_of_fraction od_simplest_equation an_simplest_equation od_beside_fraction an_beside_fraction od_law_cup an_law_cup od_law_sip an_law_sip od_law_pick an_law_pick od_law_pair an_law_pair od_law_end an_law_end od_law_told an_law_told od_law_ten an_law_ten od_law_root an_law_root od_law_normal an_law_normal od_law_side an_law_side od_law_three an_law_three od_law_floor_right an_law_floor_right od_law_right an_law_right od_law an_law od_Exact_init an_Exact_init od_Exact_compare an_Exact_compare od_Exact_floor an_Exact_floor odO : Option Addr} {sl_is_integer sl_is_integer_within sl_is_pair_of_integers sl_is_resistance sl_pair_of sl_common_divisor sl_lowest_terms sl_sign sl_square_root sl_under_root sl_floor_of sl_equation_of_fraction sl_simplest_equation sl_beside_fraction sl_law_cup sl_law_sip sl_law_pick sl_law_pair sl_law_end sl_law_told sl_law_ten sl_law_root sl_law_normal sl_law_side sl_law_three sl_law_floor_right sl_law_right sl_law sl_Exact_init sl_Exact_compare sl_Exact_floor slO : Array (Option Value)}
    {oc_is_integer kV_is_integer dc_is_integer pm_is_integer cd_is_integer ct_is_integer oc_is_integer_within kV_is_integer_within dc_is_integer_within pm_is_integer_within cd_is_integer_within ct_is_integer_within oc_is_pair_of_integers kV_is_pair_of_integers dc_is_pair_of_integers pm_is_pair_of_integers cd_is_pair_of_integers ct_is_pair_of_integers oc_is_resistance kV_is_resistance dc_is_resistance pm_is_resistance cd_is_resistance ct_is_resistance oc_pair_of kV_pair_of dc_pair_of pm_pair_of cd_pair_of ct_pair_of oc_common_divisor kV_common_divisor dc_common_divisor pm_common_divisor cd_common_divisor ct_common_divisor oc_lowest_terms kV_lowest_terms dc_lowest_terms pm_lowest_terms cd_lowest_terms ct_lowest_terms oc_sign kV_sign dc_sign pm_sign cd_sign ct_sign oc_square_root kV_square_root dc_square_root pm_square_root cd_square_root ct_square_root oc_under_root kV_under_root dc_under_root pm_under_root cd_under_root ct_under_root oc_floor_of kV_floor_of dc_floor_of pm_floor_of cd_floor_of ct_floor_of oc_equation_of_fraction kV_equation_of_fraction dc_equation_of_fraction pm_equation_of_fraction cd_equation_of_fraction ct_equation_of_fraction oc_simplest_equation kV_simplest_equation dc_simplest_equation pm_simplest_equation cd_simplest_equation ct_simplest_equation oc_beside_fraction kV_beside_fraction dc_beside_fraction pm_beside_fraction cd_beside_fraction ct_beside_fraction oc_law_cup kV_law_cup dc_law_cup pm_law_cup cd_law_cup ct_law_cup oc_law_sip kV_law_sip dc_law_sip pm_law_sip cd_law_sip ct_law_sip oc_law_pick kV_law_pick dc_law_pick pm_law_pick cd_law_pick ct_law_pick oc_law_pair kV_law_pair dc_law_pair pm_law_pair cd_law_pair ct_law_pair oc_law_end kV_law_end dc_law_end pm_law_end cd_law_end ct_law_end oc_law_told kV_law_told dc_law_told pm_law_told cd_law_told ct_law_told oc_law_ten kV_law_ten dc_law_ten pm_law_ten cd_law_ten ct_law_ten oc_law_root kV_law_root dc_law_root pm_law_root cd_law_root ct_law_root oc_law_normal kV_law_normal dc_law_normal pm_law_normal cd_law_normal ct_law_normal oc_law_side kV_law_side dc_law_side pm_law_side cd_law_side ct_law_side oc_law_three kV_law_three dc_law_three pm_law_three cd_law_three ct_law_three oc_law_floor_right kV_law_floor_right dc_law_floor_right pm_law_floor_right cd_law_floor_right ct_law_floor_right oc_law_right kV_law_right dc_law_right pm_law_right cd_law_right ct_law_right oc_law kV_law dc_law pm_law cd_law ct_law oc_Exact_init kV_Exact_init dc_Exact_init pm_Exact_init cd_Exact_init ct_Exact_init oc_Exact_compare kV_Exact_compare dc_Exact_compare pm_Exact_compare cd_Exact_compare ct_Exact_compare oc_Exact_floor kV_Exact_floor dc_Exact_floor pm_Exact_floor cd_Exact_floor ct_Exact_floor : Value} {tG tP t1 t2 : Tok} {nO : Nat} (hfa : mg "law" = some (.ref fa))
    (a_is_integer : PySem.W.nsIn K mainGlobals "is_integer" = some (some (.ref f_is_integer)))
    (l_is_integer : K.lookup f_is_integer = some ⟨oc_is_integer, od_is_integer, .func (PySem.W.fnOf "is_integer" "is_integer" (defArgs s_is_integer) (defBody s_is_integer) (defScope s_is_integer) .none kV_is_integer dc_is_integer pm_is_integer an_is_integer cd_is_integer ct_is_integer), sl_is_integer⟩)
    (c_is_integer : PySem.W.codeIn K cd_is_integer "is_integer" = true)
    (k_is_integer : PySem.W.keepIn K (.ref f_is_integer) = true)
    (a_is_integer_within : PySem.W.nsIn K mainGlobals "is_integer_within" = some (some (.ref f_is_integer_within)))
    (l_is_integer_within : K.lookup f_is_integer_within = some ⟨oc_is_integer_within, od_is_integer_within, .func (PySem.W.fnOf "is_integer_within" "is_integer_within" (defArgs s_is_integer_within) (defBody s_is_integer_within) (defScope s_is_integer_within) .none kV_is_integer_within dc_is_integer_within pm_is_integer_within an_is_integer_within cd_is_integer_within ct_is_integer_within), sl_is_integer_within⟩)
    (c_is_integer_within : PySem.W.codeIn K cd_is_integer_within "is_integer_within" = true)
    (k_is_integer_within : PySem.W.keepIn K (.ref f_is_integer_within) = true)
    (a_is_pair_of_integers : PySem.W.nsIn K mainGlobals "is_pair_of_integers" = some (some (.ref f_is_pair_of_integers)))
    (l_is_pair_of_integers : K.lookup f_is_pair_of_integers = some ⟨oc_is_pair_of_integers, od_is_pair_of_integers, .func (PySem.W.fnOf "is_pair_of_integers" "is_pair_of_integers" (defArgs s_is_pair_of_integers) (defBody s_is_pair_of_integers) (defScope s_is_pair_of_integers) .none kV_is_pair_of_integers dc_is_pair_of_integers pm_is_pair_of_integers an_is_pair_of_integers cd_is_pair_of_integers ct_is_pair_of_integers), sl_is_pair_of_integers⟩)
    (c_is_pair_of_integers : PySem.W.codeIn K cd_is_pair_of_integers "is_pair_of_integers" = true)
    (k_is_pair_of_integers : PySem.W.keepIn K (.ref f_is_pair_of_integers) = true)
    (a_is_resistance : PySem.W.nsIn K mainGlobals "is_resistance" = some (some (.ref f_is_resistance)))
    (l_is_resistance : K.lookup f_is_resistance = some ⟨oc_is_resistance, od_is_resistance, .func (PySem.W.fnOf "is_resistance" "is_resistance" (defArgs s_is_resistance) (defBody s_is_resistance) (defScope s_is_resistance) .none kV_is_resistance dc_is_resistance pm_is_resistance an_is_resistance cd_is_resistance ct_is_resistance), sl_is_resistance⟩)
    (c_is_resistance : PySem.W.codeIn K cd_is_resistance "is_resistance" = true)
    (k_is_resistance : PySem.W.keepIn K (.ref f_is_resistance) = true)
    (a_pair_of : PySem.W.nsIn K mainGlobals "pair_of" = some (some (.ref f_pair_of)))
    (l_pair_of : K.lookup f_pair_of = some ⟨oc_pair_of, od_pair_of, .func (PySem.W.fnOf "pair_of" "pair_of" (defArgs s_pair_of) (defBody s_pair_of) (defScope s_pair_of) .none kV_pair_of dc_pair_of pm_pair_of an_pair_of cd_pair_of ct_pair_of), sl_pair_of⟩)
    (c_pair_of : PySem.W.codeIn K cd_pair_of "pair_of" = true)
    (k_pair_of : PySem.W.keepIn K (.ref f_pair_of) = true)
    (a_common_divisor : PySem.W.nsIn K mainGlobals "common_divisor" = some (some (.ref f_common_divisor)))
    (l_common_divisor : K.lookup f_common_divisor = some ⟨oc_common_divisor, od_common_divisor, .func (PySem.W.fnOf "common_divisor" "common_divisor" (defArgs s_common_divisor) (defBody s_common_divisor) (defScope s_common_divisor) .none kV_common_divisor dc_common_divisor pm_common_divisor an_common_divisor cd_common_divisor ct_common_divisor), sl_common_divisor⟩)
    (c_common_divisor : PySem.W.codeIn K cd_common_divisor "common_divisor" = true)
    (k_common_divisor : PySem.W.keepIn K (.ref f_common_divisor) = true)
    (a_lowest_terms : PySem.W.nsIn K mainGlobals "lowest_terms" = some (some (.ref f_lowest_terms)))
    (l_lowest_terms : K.lookup f_lowest_terms = some ⟨oc_lowest_terms, od_lowest_terms, .func (PySem.W.fnOf "lowest_terms" "lowest_terms" (defArgs s_lowest_terms) (defBody s_lowest_terms) (defScope s_lowest_terms) .none kV_lowest_terms dc_lowest_terms pm_lowest_terms an_lowest_terms cd_lowest_terms ct_lowest_terms), sl_lowest_terms⟩)
    (c_lowest_terms : PySem.W.codeIn K cd_lowest_terms "lowest_terms" = true)
    (k_lowest_terms : PySem.W.keepIn K (.ref f_lowest_terms) = true)
    (a_sign : PySem.W.nsIn K mainGlobals "sign" = some (some (.ref f_sign)))
    (l_sign : K.lookup f_sign = some ⟨oc_sign, od_sign, .func (PySem.W.fnOf "sign" "sign" (defArgs s_sign) (defBody s_sign) (defScope s_sign) .none kV_sign dc_sign pm_sign an_sign cd_sign ct_sign), sl_sign⟩)
    (c_sign : PySem.W.codeIn K cd_sign "sign" = true)
    (k_sign : PySem.W.keepIn K (.ref f_sign) = true)
    (a_square_root : PySem.W.nsIn K mainGlobals "square_root" = some (some (.ref f_square_root)))
    (l_square_root : K.lookup f_square_root = some ⟨oc_square_root, od_square_root, .func (PySem.W.fnOf "square_root" "square_root" (defArgs s_square_root) (defBody s_square_root) (defScope s_square_root) .none kV_square_root dc_square_root pm_square_root an_square_root cd_square_root ct_square_root), sl_square_root⟩)
    (c_square_root : PySem.W.codeIn K cd_square_root "square_root" = true)
    (k_square_root : PySem.W.keepIn K (.ref f_square_root) = true)
    (a_under_root : PySem.W.nsIn K mainGlobals "under_root" = some (some (.ref f_under_root)))
    (l_under_root : K.lookup f_under_root = some ⟨oc_under_root, od_under_root, .func (PySem.W.fnOf "under_root" "under_root" (defArgs s_under_root) (defBody s_under_root) (defScope s_under_root) .none kV_under_root dc_under_root pm_under_root an_under_root cd_under_root ct_under_root), sl_under_root⟩)
    (c_under_root : PySem.W.codeIn K cd_under_root "under_root" = true)
    (k_under_root : PySem.W.keepIn K (.ref f_under_root) = true)
    (a_floor_of : PySem.W.nsIn K mainGlobals "floor_of" = some (some (.ref f_floor_of)))
    (l_floor_of : K.lookup f_floor_of = some ⟨oc_floor_of, od_floor_of, .func (PySem.W.fnOf "floor_of" "floor_of" (defArgs s_floor_of) (defBody s_floor_of) (defScope s_floor_of) .none kV_floor_of dc_floor_of pm_floor_of an_floor_of cd_floor_of ct_floor_of), sl_floor_of⟩)
    (c_floor_of : PySem.W.codeIn K cd_floor_of "floor_of" = true)
    (k_floor_of : PySem.W.keepIn K (.ref f_floor_of) = true)
    (a_equation_of_fraction : PySem.W.nsIn K mainGlobals "equation_of_fraction" = some (some (.ref f_equation_of_fraction)))
    (l_equation_of_fraction : K.lookup f_equation_of_fraction = some ⟨oc_equation_of_fraction, od_equation_of_fraction, .func (PySem.W.fnOf "equation_of_fraction" "equation_of_fraction" (defArgs s_equation_of_fraction) (defBody s_equation_of_fraction) (defScope s_equation_of_fraction) .none kV_equation_of_fraction dc_equation_of_fraction pm_equation_of_fraction an_equation_of_fraction cd_equation_of_fraction ct_equation_of_fraction), sl_equation_of_fraction⟩)
    (c_equation_of_fraction : PySem.W.codeIn K cd_equation_of_fraction "equation_of_fraction" = true)
    (k_equation_of_fraction : PySem.W.keepIn K (.ref f_equation_of_fraction) = true)
    (a_simplest_equation : PySem.W.nsIn K mainGlobals "simplest_equation" = some (some (.ref f_simplest_equation)))
    (l_simplest_equation : K.lookup f_simplest_equation = some ⟨oc_simplest_equation, od_simplest_equation, .func (PySem.W.fnOf "simplest_equation" "simplest_equation" (defArgs s_simplest_equation) (defBody s_simplest_equation) (defScope s_simplest_equation) .none kV_simplest_equation dc_simplest_equation pm_simplest_equation an_simplest_equation cd_simplest_equation ct_simplest_equation), sl_simplest_equation⟩)
    (c_simplest_equation : PySem.W.codeIn K cd_simplest_equation "simplest_equation" = true)
    (k_simplest_equation : PySem.W.keepIn K (.ref f_simplest_equation) = true)
    (a_beside_fraction : PySem.W.nsIn K mainGlobals "beside_fraction" = some (some (.ref f_beside_fraction)))
    (l_beside_fraction : K.lookup f_beside_fraction = some ⟨oc_beside_fraction, od_beside_fraction, .func (PySem.W.fnOf "beside_fraction" "beside_fraction" (defArgs s_beside_fraction) (defBody s_beside_fraction) (defScope s_beside_fraction) .none kV_beside_fraction dc_beside_fraction pm_beside_fraction an_beside_fraction cd_beside_fraction ct_beside_fraction), sl_beside_fraction⟩)
    (c_beside_fraction : PySem.W.codeIn K cd_beside_fraction "beside_fraction" = true)
    (k_beside_fraction : PySem.W.keepIn K (.ref f_beside_fraction) = true)
    (a_law_cup : PySem.W.nsIn K mainGlobals "_law_cup" = some (some (.ref f_law_cup)))
    (l_law_cup : K.lookup f_law_cup = some ⟨oc_law_cup, od_law_cup, .func (PySem.W.fnOf "_law_cup" "_law_cup" (defArgs s_law_cup) (defBody s_law_cup) (defScope s_law_cup) .none kV_law_cup dc_law_cup pm_law_cup an_law_cup cd_law_cup ct_law_cup), sl_law_cup⟩)
    (c_law_cup : PySem.W.codeIn K cd_law_cup "_law_cup" = true)
    (k_law_cup : PySem.W.keepIn K (.ref f_law_cup) = true)
    (a_law_sip : PySem.W.nsIn K mainGlobals "_law_sip" = some (some (.ref f_law_sip)))
    (l_law_sip : K.lookup f_law_sip = some ⟨oc_law_sip, od_law_sip, .func (PySem.W.fnOf "_law_sip" "_law_sip" (defArgs s_law_sip) (defBody s_law_sip) (defScope s_law_sip) .none kV_law_sip dc_law_sip pm_law_sip an_law_sip cd_law_sip ct_law_sip), sl_law_sip⟩)
    (c_law_sip : PySem.W.codeIn K cd_law_sip "_law_sip" = true)
    (k_law_sip : PySem.W.keepIn K (.ref f_law_sip) = true)
    (a_law_pick : PySem.W.nsIn K mainGlobals "_law_pick" = some (some (.ref f_law_pick)))
    (l_law_pick : K.lookup f_law_pick = some ⟨oc_law_pick, od_law_pick, .func (PySem.W.fnOf "_law_pick" "_law_pick" (defArgs s_law_pick) (defBody s_law_pick) (defScope s_law_pick) .none kV_law_pick dc_law_pick pm_law_pick an_law_pick cd_law_pick ct_law_pick), sl_law_pick⟩)
    (c_law_pick : PySem.W.codeIn K cd_law_pick "_law_pick" = true)
    (k_law_pick : PySem.W.keepIn K (.ref f_law_pick) = true)
    (a_law_pair : PySem.W.nsIn K mainGlobals "_law_pair" = some (some (.ref f_law_pair)))
    (l_law_pair : K.lookup f_law_pair = some ⟨oc_law_pair, od_law_pair, .func (PySem.W.fnOf "_law_pair" "_law_pair" (defArgs s_law_pair) (defBody s_law_pair) (defScope s_law_pair) .none kV_law_pair dc_law_pair pm_law_pair an_law_pair cd_law_pair ct_law_pair), sl_law_pair⟩)
    (c_law_pair : PySem.W.codeIn K cd_law_pair "_law_pair" = true)
    (k_law_pair : PySem.W.keepIn K (.ref f_law_pair) = true)
    (a_law_end : PySem.W.nsIn K mainGlobals "_law_end" = some (some (.ref f_law_end)))
    (l_law_end : K.lookup f_law_end = some ⟨oc_law_end, od_law_end, .func (PySem.W.fnOf "_law_end" "_law_end" (defArgs s_law_end) (defBody s_law_end) (defScope s_law_end) .none kV_law_end dc_law_end pm_law_end an_law_end cd_law_end ct_law_end), sl_law_end⟩)
    (c_law_end : PySem.W.codeIn K cd_law_end "_law_end" = true)
    (k_law_end : PySem.W.keepIn K (.ref f_law_end) = true)
    (a_law_told : PySem.W.nsIn K mainGlobals "_law_told" = some (some (.ref f_law_told)))
    (l_law_told : K.lookup f_law_told = some ⟨oc_law_told, od_law_told, .func (PySem.W.fnOf "_law_told" "_law_told" (defArgs s_law_told) (defBody s_law_told) (defScope s_law_told) .none kV_law_told dc_law_told pm_law_told an_law_told cd_law_told ct_law_told), sl_law_told⟩)
    (c_law_told : PySem.W.codeIn K cd_law_told "_law_told" = true)
    (k_law_told : PySem.W.keepIn K (.ref f_law_told) = true)
    (a_law_ten : PySem.W.nsIn K mainGlobals "_law_ten" = some (some (.ref f_law_ten)))
    (l_law_ten : K.lookup f_law_ten = some ⟨oc_law_ten, od_law_ten, .func (PySem.W.fnOf "_law_ten" "_law_ten" (defArgs s_law_ten) (defBody s_law_ten) (defScope s_law_ten) .none kV_law_ten dc_law_ten pm_law_ten an_law_ten cd_law_ten ct_law_ten), sl_law_ten⟩)
    (c_law_ten : PySem.W.codeIn K cd_law_ten "_law_ten" = true)
    (k_law_ten : PySem.W.keepIn K (.ref f_law_ten) = true)
    (a_law_root : PySem.W.nsIn K mainGlobals "_law_root" = some (some (.ref f_law_root)))
    (l_law_root : K.lookup f_law_root = some ⟨oc_law_root, od_law_root, .func (PySem.W.fnOf "_law_root" "_law_root" (defArgs s_law_root) (defBody s_law_root) (defScope s_law_root) .none kV_law_root dc_law_root pm_law_root an_law_root cd_law_root ct_law_root), sl_law_root⟩)
    (c_law_root : PySem.W.codeIn K cd_law_root "_law_root" = true)
    (k_law_root : PySem.W.keepIn K (.ref f_law_root) = true)
    (a_law_normal : PySem.W.nsIn K mainGlobals "_law_normal" = some (some (.ref f_law_normal)))
    (l_law_normal : K.lookup f_law_normal = some ⟨oc_law_normal, od_law_normal, .func (PySem.W.fnOf "_law_normal" "_law_normal" (defArgs s_law_normal) (defBody s_law_normal) (defScope s_law_normal) .none kV_law_normal dc_law_normal pm_law_normal an_law_normal cd_law_normal ct_law_normal), sl_law_normal⟩)
    (c_law_normal : PySem.W.codeIn K cd_law_normal "_law_normal" = true)
    (k_law_normal : PySem.W.keepIn K (.ref f_law_normal) = true)
    (a_law_side : PySem.W.nsIn K mainGlobals "_law_side" = some (some (.ref f_law_side)))
    (l_law_side : K.lookup f_law_side = some ⟨oc_law_side, od_law_side, .func (PySem.W.fnOf "_law_side" "_law_side" (defArgs s_law_side) (defBody s_law_side) (defScope s_law_side) .none kV_law_side dc_law_side pm_law_side an_law_side cd_law_side ct_law_side), sl_law_side⟩)
    (c_law_side : PySem.W.codeIn K cd_law_side "_law_side" = true)
    (k_law_side : PySem.W.keepIn K (.ref f_law_side) = true)
    (a_law_three : PySem.W.nsIn K mainGlobals "_law_three" = some (some (.ref f_law_three)))
    (l_law_three : K.lookup f_law_three = some ⟨oc_law_three, od_law_three, .func (PySem.W.fnOf "_law_three" "_law_three" (defArgs s_law_three) (defBody s_law_three) (defScope s_law_three) .none kV_law_three dc_law_three pm_law_three an_law_three cd_law_three ct_law_three), sl_law_three⟩)
    (c_law_three : PySem.W.codeIn K cd_law_three "_law_three" = true)
    (k_law_three : PySem.W.keepIn K (.ref f_law_three) = true)
    (a_law_floor_right : PySem.W.nsIn K mainGlobals "_law_floor_right" = some (some (.ref f_law_floor_right)))
    (l_law_floor_right : K.lookup f_law_floor_right = some ⟨oc_law_floor_right, od_law_floor_right, .func (PySem.W.fnOf "_law_floor_right" "_law_floor_right" (defArgs s_law_floor_right) (defBody s_law_floor_right) (defScope s_law_floor_right) .none kV_law_floor_right dc_law_floor_right pm_law_floor_right an_law_floor_right cd_law_floor_right ct_law_floor_right), sl_law_floor_right⟩)
    (c_law_floor_right : PySem.W.codeIn K cd_law_floor_right "_law_floor_right" = true)
    (k_law_floor_right : PySem.W.keepIn K (.ref f_law_floor_right) = true)
    (a_law_right : PySem.W.nsIn K mainGlobals "_law_right" = some (some (.ref f_law_right)))
    (l_law_right : K.lookup f_law_right = some ⟨oc_law_right, od_law_right, .func (PySem.W.fnOf "_law_right" "_law_right" (defArgs s_law_right) (defBody s_law_right) (defScope s_law_right) .none kV_law_right dc_law_right pm_law_right an_law_right cd_law_right ct_law_right), sl_law_right⟩)
    (c_law_right : PySem.W.codeIn K cd_law_right "_law_right" = true)
    (k_law_right : PySem.W.keepIn K (.ref f_law_right) = true)
    (a_law : PySem.W.nsIn K mainGlobals "law" = some (some (.ref f_law)))
    (l_law : K.lookup f_law = some ⟨oc_law, od_law, .func (PySem.W.fnOf "law" "law" (defArgs s_law) (defBody s_law) (defScope s_law) .none kV_law dc_law pm_law an_law cd_law ct_law), sl_law⟩)
    (c_law : PySem.W.codeIn K cd_law "law" = true)
    (k_law : PySem.W.keepIn K (.ref f_law) = true)
    (a_Exact_init : PySem.W.findIn K (.ref C) "__init__" = some (some (.ref f_Exact_init)))
    (i_Exact_init : PySem.W.isFn K (.ref f_Exact_init) = true)
    (l_Exact_init : K.lookup f_Exact_init = some ⟨oc_Exact_init, od_Exact_init, .func (PySem.W.fnOf "__init__" "Exact.__init__" (defArgs s_Exact_init) (defBody s_Exact_init) (defScope s_Exact_init) .none kV_Exact_init dc_Exact_init pm_Exact_init an_Exact_init cd_Exact_init ct_Exact_init), sl_Exact_init⟩)
    (c_Exact_init : PySem.W.codeIn K cd_Exact_init "Exact.__init__" = true)
    (k_Exact_init : PySem.W.keepIn K (.ref f_Exact_init) = true)
    (a_Exact_compare : PySem.W.findIn K (.ref C) "compare" = some (some (.ref f_Exact_compare)))
    (i_Exact_compare : PySem.W.isFn K (.ref f_Exact_compare) = true)
    (l_Exact_compare : K.lookup f_Exact_compare = some ⟨oc_Exact_compare, od_Exact_compare, .func (PySem.W.fnOf "compare" "Exact.compare" (defArgs s_Exact_compare) (defBody s_Exact_compare) (defScope s_Exact_compare) .none kV_Exact_compare dc_Exact_compare pm_Exact_compare an_Exact_compare cd_Exact_compare ct_Exact_compare), sl_Exact_compare⟩)
    (c_Exact_compare : PySem.W.codeIn K cd_Exact_compare "Exact.compare" = true)
    (k_Exact_compare : PySem.W.keepIn K (.ref f_Exact_compare) = true)
    (a_Exact_floor : PySem.W.findIn K (.ref C) "floor" = some (some (.ref f_Exact_floor)))
    (i_Exact_floor : PySem.W.isFn K (.ref f_Exact_floor) = true)
    (l_Exact_floor : K.lookup f_Exact_floor = some ⟨oc_Exact_floor, od_Exact_floor, .func (PySem.W.fnOf "floor" "Exact.floor" (defArgs s_Exact_floor) (defBody s_Exact_floor) (defScope s_Exact_floor) .none kV_Exact_floor dc_Exact_floor pm_Exact_floor an_Exact_floor cd_Exact_floor ct_Exact_floor), sl_Exact_floor⟩)
    (c_Exact_floor : PySem.W.codeIn K cd_Exact_floor "Exact.floor" = true)
    (k_Exact_floor : PySem.W.keepIn K (.ref f_Exact_floor) = true)
    (aG : PySem.W.nsIn K mainGlobals "GREATEST" = some (some (.int 1000000000000 tG)))
    (aP : PySem.W.nsIn K mainGlobals "GREATEST_PART" = some (some (.int 10000000000000000000000000000000000000000 tP)))
    (aOp : PySem.W.nsIn K mainGlobals "OPEN" = some (some (.ref aO)))
    (lOp : K.lookup aO = some ⟨.type "tuple", odO, .seq #[.int 1 t1, .int 0 t2] nO, slO⟩)
    (aC : PySem.W.nsIn K mainGlobals "Exact" = some (some (.ref C)))
    (pg : PySem.W.plainGet K C Str.empty = true)
    (hd : PySem.W.hasDictIn K C = true)
    (po : PySem.W.plainOver K C = true)
    (sa : PySem.W.findIn K (.ref C) "__setattr__" = some (some (.builtin "object.__setattr__")))
    (mk : PySem.W.makesIn K C = true)
    (kc : PySem.W.keepIn K (.ref C) = true)
    (nP : PySem.W.findIn K (.ref C) "parts" = some none)
    (z_len : PySem.W.nsIn K mainGlobals "len" = some none)
    (z_abs : PySem.W.nsIn K mainGlobals "abs" = some none)
    (z_int : PySem.W.nsIn K mainGlobals "int" = some none)
    (z_bool : PySem.W.nsIn K mainGlobals "bool" = some none)
    (z_tuple : PySem.W.nsIn K mainGlobals "tuple" = some none)
    (z_isinstance : PySem.W.nsIn K mainGlobals "isinstance" = some none)
    (z_divmod : PySem.W.nsIn K mainGlobals "divmod" = some none)
    (z_max : PySem.W.nsIn K mainGlobals "max" = some none)
    (z_min : PySem.W.nsIn K mainGlobals "min" = some none)
    (z_range : PySem.W.nsIn K mainGlobals "range" = some none)
    (z_all : PySem.W.nsIn K mainGlobals "all" = some none) :
    ∃ fd : FuncData, (∀ (s : Shared) (v : Value), BindsTo s fd ⟨[v], []⟩ [("_law_script", v)]) ∧ ∀ base : Heap, K.In base → base.Ns mainGlobals mg → FnOk l.prog w K mg base CX0 8 fa fd ["_law_script"] (spLaw K) := by
  have e := hfa.symm.trans (PySem.W.mg_of X G a_law)
  cases e
  have T : Txt2 K mg tG tP aO C := { len := PySem.W.mg_none_of X G z_len, abs := PySem.W.mg_none_of X G z_abs, int_ := PySem.W.mg_none_of X G z_int, bool_ := PySem.W.mg_none_of X G z_bool, tuple_ := PySem.W.mg_none_of X G z_tuple, isinstance := PySem.W.mg_none_of X G z_isinstance, divmod := PySem.W.mg_none_of X G z_divmod, max := PySem.W.mg_none_of X G z_max, min := PySem.W.mg_none_of X G z_min, range := PySem.W.mg_none_of X G z_range, all := PySem.W.mg_none_of X G z_all, mgG := PySem.W.mg_of X G aG, mgP := PySem.W.mg_of X G aP, mgO := PySem.W.mg_of X G aOp, opn := ⟨_, _, _, lOp, rfl, rfl, (by show 2 ≤ sizeLine; decide), .cons ⟨_, rfl⟩ (.cons ⟨_, rfl⟩ .nil)⟩, mgC := PySem.W.mg_of X G aC, cl := ⟨pg, hd, po, sa⟩, nP := nP }
  refine ⟨PySem.W.fnOf "law" "law" (defArgs s_law) (defBody s_law) (defScope s_law) .none kV_law dc_law pm_law an_law cd_law ct_law, fun s v => .of_eq rfl, fun base _ _ => ?_⟩
  have F_is_integer := fun_mk (st := s_is_integer) l_is_integer c_is_integer k_is_integer
  have b_is_integer := F_is_integer.binds (ps := ["value"]) fun _ _ _ _ _ _ us hl => match us, hl with | [_], _ => rfl
  have D_is_integer : Df l.prog w K mg base 1 "is_integer" ["value"] spIsInt := ⟨_, _, ok_isint F_is_integer T.toTxt, PySem.W.mg_of X G a_is_integer, k_is_integer, b_is_integer⟩
  have F_is_integer_within := fun_mk (st := s_is_integer_within) l_is_integer_within c_is_integer_within k_is_integer_within
  have b_is_integer_within := F_is_integer_within.binds (ps := ["value", "least", "most"]) fun _ _ _ _ _ _ us hl => match us, hl with | [_, _, _], _ => rfl
  have D_is_integer_within : Df l.prog w K mg base 2 "is_integer_within" ["value", "least", "most"] spWithin := ⟨_, _, ok_within F_is_integer_within D_is_integer, PySem.W.mg_of X G a_is_integer_within, k_is_integer_within, b_is_integer_within⟩
  have F_is_pair_of_integers := fun_mk (st := s_is_pair_of_integers) l_is_pair_of_integers c_is_pair_of_integers k_is_pair_of_integers
  have b_is_pair_of_integers := F_is_pair_of_integers.binds (ps := ["value"]) fun _ _ _ _ _ _ us hl => match us, hl with | [_], _ => rfl
  have D_is_pair_of_integers : Df l.prog w K mg base 2 "is_pair_of_integers" ["value"] spIsPair := ⟨_, _, ok_ispair F_is_pair_of_integers T.toTxt D_is_integer, PySem.W.mg_of X G a_is_pair_of_integers, k_is_pair_of_integers, b_is_pair_of_integers⟩
  have F_is_resistance := fun_mk (st := s_is_resistance) l_is_resistance c_is_resistance k_is_resistance
  have b_is_resistance := F_is_resistance.binds (ps := ["value"]) fun _ _ _ _ _ _ us hl => match us, hl with | [_], _ => rfl
  have D_is_resistance : Df l.prog w K mg base 3 "is_resistance" ["value"] spIsRes := ⟨_, _, ok_isres F_is_resistance T D_is_integer D_is_pair_of_integers, PySem.W.mg_of X G a_is_resistance, k_is_resistance, b_is_resistance⟩
  have F_pair_of := fun_mk (st := s_pair_of) l_pair_of c_pair_of k_pair_of
  have b_pair_of := F_pair_of.binds (ps := ["fraction_or_open"]) fun _ _ _ _ _ _ us hl => match us, hl with | [_], _ => rfl
  have D_pair_of : Df l.prog w K mg base 2 "pair_of" ["fraction_or_open"] spPairOf := ⟨_, _, ok_pairof F_pair_of D_is_integer, PySem.W.mg_of X G a_pair_of, k_pair_of, b_pair_of⟩
  have F_common_divisor := fun_mk (st := s_common_divisor) l_common_divisor c_common_divisor k_common_divisor
  have b_common_divisor := F_common_divisor.binds (ps := ["first", "second"]) fun _ _ _ _ _ _ us hl => match us, hl with | [_, _], _ => rfl
  have D_common_divisor : Df l.prog w K mg base 1 "common_divisor" ["first", "second"] spGcd := ⟨_, _, ok_gcd F_common_divisor T.toTxt, PySem.W.mg_of X G a_common_divisor, k_common_divisor, b_common_divisor⟩
  have F_lowest_terms := fun_mk (st := s_lowest_terms) l_lowest_terms c_lowest_terms k_lowest_terms
  have b_lowest_terms := F_lowest_terms.binds (ps := ["top", "bottom"]) fun _ _ _ _ _ _ us hl => match us, hl with | [_, _], _ => rfl
  have D_lowest_terms : Df l.prog w K mg base 2 "lowest_terms" ["top", "bottom"] spLow := ⟨_, _, ok_low F_lowest_terms D_common_divisor, PySem.W.mg_of X G a_lowest_terms, k_lowest_terms, b_lowest_terms⟩
  have F_sign := fun_mk (st := s_sign) l_sign c_sign k_sign
  have b_sign := F_sign.binds (ps := ["number"]) fun _ _ _ _ _ _ us hl => match us, hl with | [_], _ => rfl
  have D_sign : Df l.prog w K mg base 1 "sign" ["number"] spSign := ⟨_, _, ok_sign F_sign, PySem.W.mg_of X G a_sign, k_sign, b_sign⟩
  have F_square_root := fun_mk (st := s_square_root) l_square_root c_square_root k_square_root
  have b_square_root := F_square_root.binds (ps := ["number"]) fun _ _ _ _ _ _ us hl => match us, hl with | [_], _ => rfl
  have D_square_root : Df l.prog w K mg base 1 "square_root" ["number"] spRoot := ⟨_, _, ok_sqrt F_square_root, PySem.W.mg_of X G a_square_root, k_square_root, b_square_root⟩
  have F_under_root := fun_mk (st := s_under_root) l_under_root c_under_root k_under_root
  have b_under_root := F_under_root.binds (ps := ["square", "line", "whole"]) fun _ _ _ _ _ _ us hl => match us, hl with | [_, _, _], _ => rfl
  have D_under_root : Df l.prog w K mg base 1 "under_root" ["square", "line", "whole"] spUnder := ⟨_, _, ok_under F_under_root, PySem.W.mg_of X G a_under_root, k_under_root, b_under_root⟩
  have F_floor_of := fun_mk (st := s_floor_of) l_floor_of c_floor_of k_floor_of
  have b_floor_of := F_floor_of.binds (ps := ["parts", "times"]) fun _ _ _ _ _ _ us hl => match us, hl with | [_, _], _ => rfl
  have D_floor_of : Df l.prog w K mg base 2 "floor_of" ["parts", "times"] spFloOf := ⟨_, _, ok_floof F_floor_of D_square_root D_under_root, PySem.W.mg_of X G a_floor_of, k_floor_of, b_floor_of⟩
  have F_equation_of_fraction := fun_mk (st := s_equation_of_fraction) l_equation_of_fraction c_equation_of_fraction k_equation_of_fraction
  have b_equation_of_fraction := F_equation_of_fraction.binds (ps := ["top", "bottom"]) fun _ _ _ _ _ _ us hl => match us, hl with | [_, _], _ => rfl
  have D_equation_of_fraction : Df l.prog w K mg base 3 "equation_of_fraction" ["top", "bottom"] spEqF := ⟨_, _, ok_eqf F_equation_of_fraction D_lowest_terms, PySem.W.mg_of X G a_equation_of_fraction, k_equation_of_fraction, b_equation_of_fraction⟩
  have F_simplest_equation := fun_mk (st := s_simplest_equation) l_simplest_equation c_simplest_equation k_simplest_equation
  have b_simplest_equation := F_simplest_equation.binds (ps := ["square", "line", "whole"]) fun _ _ _ _ _ _ us hl => match us, hl with | [_, _, _], _ => rfl
  have D_simplest_equation : Df l.prog w K mg base 4 "simplest_equation" ["square", "line", "whole"] spSimp := ⟨_, _, ok_simp F_simplest_equation D_common_divisor D_square_root D_under_root D_equation_of_fraction, PySem.W.mg_of X G a_simplest_equation, k_simplest_equation, b_simplest_equation⟩
  have F_beside_fraction := fun_mk (st := s_beside_fraction) l_beside_fraction c_beside_fraction k_beside_fraction
  have b_beside_fraction := F_beside_fraction.binds (ps := ["parts", "top", "bottom"]) fun _ _ _ _ _ _ us hl => match us, hl with | [_, _, _], _ => rfl
  have D_beside_fraction : Df l.prog w K mg base 2 "beside_fraction" ["parts", "top", "bottom"] spBeside := ⟨_, _, ok_beside F_beside_fraction D_sign, PySem.W.mg_of X G a_beside_fraction, k_beside_fraction, b_beside_fraction⟩
  have F_law_cup := fun_mk (st := s_law_cup) l_law_cup c_law_cup k_law_cup
  have b_law_cup := F_law_cup.binds (ps := ["_law_script", "_law_spot"]) fun _ _ _ _ _ _ us hl => match us, hl with | [_, _], _ => rfl
  have D_law_cup : Df l.prog w K mg base 1 "_law_cup" ["_law_script", "_law_spot"] (spCup K) := ⟨_, _, ok_cup F_law_cup T.toTxt, PySem.W.mg_of X G a_law_cup, k_law_cup, b_law_cup⟩
  have F_law_sip := fun_mk (st := s_law_sip) l_law_sip c_law_sip k_law_sip
  have b_law_sip := F_law_sip.binds (ps := ["_law_cup_here", "_law_many"]) fun _ _ _ _ _ _ us hl => match us, hl with | [_, _], _ => rfl
  have D_law_sip : Df l.prog w K mg base 1 "_law_sip" ["_law_cup_here", "_law_many"] spSip := ⟨_, _, ok_sip F_law_sip T.toTxt, PySem.W.mg_of X G a_law_sip, k_law_sip, b_law_sip⟩
  have F_law_pick := fun_mk (st := s_law_pick) l_law_pick c_law_pick k_law_pick
  have b_law_pick := F_law_pick.binds (ps := ["_law_cup_here", "_law_things"]) fun _ _ _ _ _ _ us hl => match us, hl with | [_, _], _ => rfl
  have D_law_pick : Df l.prog w K mg base 2 "_law_pick" ["_law_cup_here", "_law_things"] spPick := ⟨_, _, ok_pick F_law_pick T.toTxt D_law_sip, PySem.W.mg_of X G a_law_pick, k_law_pick, b_law_pick⟩
  have F_law_pair := fun_mk (st := s_law_pair) l_law_pair c_law_pair k_law_pair
  have b_law_pair := F_law_pair.binds (ps := ["_law_top", "_law_bottom"]) fun _ _ _ _ _ _ us hl => match us, hl with | [_, _], _ => rfl
  have D_law_pair : Df l.prog w K mg base 1 "_law_pair" ["_law_top", "_law_bottom"] spPair := ⟨_, _, ok_pair F_law_pair T.toTxt, PySem.W.mg_of X G a_law_pair, k_law_pair, b_law_pair⟩
  have F_law_end := fun_mk (st := s_law_end) l_law_end c_law_end k_law_end
  have b_law_end := F_law_end.binds (ps := ["_law_cup_here"]) fun _ _ _ _ _ _ us hl => match us, hl with | [_], _ => rfl
  have D_law_end : Df l.prog w K mg base 2 "_law_end" ["_law_cup_here"] spEnd := ⟨_, _, ok_end F_law_end D_law_sip D_law_pair, PySem.W.mg_of X G a_law_end, k_law_end, b_law_end⟩
  have F_law_told := fun_mk (st := s_law_told) l_law_told c_law_told k_law_told
  have b_law_told := F_law_told.binds (ps := ["_law_cup_here", "_law_pair_here"]) fun _ _ _ _ _ _ us hl => match us, hl with | [_, _], _ => rfl
  have D_law_told : Df l.prog w K mg base 2 "_law_told" ["_law_cup_here", "_law_pair_here"] spTold := ⟨_, _, ok_told F_law_told D_law_sip, PySem.W.mg_of X G a_law_told, k_law_told, b_law_told⟩
  have F_law_ten := fun_mk (st := s_law_ten) l_law_ten c_law_ten k_law_ten
  have b_law_ten := F_law_ten.binds (ps := ["_law_figures"]) fun _ _ _ _ _ _ us hl => match us, hl with | [_], _ => rfl
  have D_law_ten : Df l.prog w K mg base 1 "_law_ten" ["_law_figures"] spTen := ⟨_, _, ok_ten F_law_ten T.toTxt, PySem.W.mg_of X G a_law_ten, k_law_ten, b_law_ten⟩
  have F_law_root := fun_mk (st := s_law_root) l_law_root c_law_root k_law_root
  have b_law_root := F_law_root.binds (ps := ["_law_worth"]) fun _ _ _ _ _ _ us hl => match us, hl with | [_], _ => rfl
  have D_law_root : Df l.prog w K mg base 1 "_law_root" ["_law_worth"] spRoot := ⟨_, _, ok_root F_law_root T.toTxt, PySem.W.mg_of X G a_law_root, k_law_root, b_law_root⟩
  have F_law_normal := fun_mk (st := s_law_normal) l_law_normal c_law_normal k_law_normal
  have b_law_normal := F_law_normal.binds (ps := ["_law_a", "_law_b", "_law_c"]) fun _ _ _ _ _ _ us hl => match us, hl with | [_, _, _], _ => rfl
  have D_law_normal : Df l.prog w K mg base 2 "_law_normal" ["_law_a", "_law_b", "_law_c"] spNormal := ⟨_, _, ok_normal F_law_normal T.toTxt D_law_pair D_law_root, PySem.W.mg_of X G a_law_normal, k_law_normal, b_law_normal⟩
  have F_law_side := fun_mk (st := s_law_side) l_law_side c_law_side k_law_side
  have b_law_side := F_law_side.binds (ps := ["_law_three_here", "_law_pair_here"]) fun _ _ _ _ _ _ us hl => match us, hl with | [_, _], _ => rfl
  have D_law_side : Df l.prog w K mg base 1 "_law_side" ["_law_three_here", "_law_pair_here"] spSide := ⟨_, _, ok_side F_law_side, PySem.W.mg_of X G a_law_side, k_law_side, b_law_side⟩
  have F_law_three := fun_mk (st := s_law_three) l_law_three c_law_three k_law_three
  have b_law_three := F_law_three.binds (ps := ["_law_cup_here"]) fun _ _ _ _ _ _ us hl => match us, hl with | [_], _ => rfl
  have D_law_three : Df l.prog w K mg base 3 "_law_three" ["_law_cup_here"] spThree := ⟨_, _, ok_three F_law_three T.toTxt D_law_sip D_law_pick, PySem.W.mg_of X G a_law_three, k_law_three, b_law_three⟩
  have F_Exact_init := fun_mk (st := s_Exact_init) l_Exact_init c_Exact_init k_Exact_init
  have b_Exact_init := F_Exact_init.binds (ps := ["self", "square", "line", "whole"]) fun _ _ _ _ _ _ us hl => match us, hl with | [_, _, _, _], _ => rfl
  have F_Exact_compare := fun_mk (st := s_Exact_compare) l_Exact_compare c_Exact_compare k_Exact_compare
  have b_Exact_compare := F_Exact_compare.binds (ps := ["self", "resistance"]) fun _ _ _ _ _ _ us hl => match us, hl with | [_, _], _ => rfl
  have F_Exact_floor := fun_mk (st := s_Exact_floor) l_Exact_floor c_Exact_floor k_Exact_floor
  have b_Exact_floor := F_Exact_floor.binds (ps := ["self", "times"]) fun _ _ _ _ _ _ us hl => match us, hl with | [_, _], _ => rfl
  have X_exact : ExD l.prog w K mg base C := ⟨_, _, ⟨mk, a_Exact_init, i_Exact_init, kc⟩, ok_init F_Exact_init T D_is_integer_within D_simplest_equation, b_Exact_init⟩
  have M_compare : Mt l.prog w K mg base C 4 "compare" "self" "resistance" (spCompare C) := ⟨_, _, ok_compare F_Exact_compare T D_is_resistance D_pair_of D_beside_fraction, ⟨a_Exact_compare, i_Exact_compare, k_Exact_compare⟩, b_Exact_compare, fun _ _ _ _ => .of_eq rfl⟩
  have M_floor : Mt l.prog w K mg base C 3 "floor" "self" "times" (spFloor C) := ⟨_, _, ok_floor F_Exact_floor T D_is_integer_within D_floor_of, ⟨a_Exact_floor, i_Exact_floor, k_Exact_floor⟩, b_Exact_floor, fun _ _ _ _ => .of_eq rfl⟩
  have F_law_floor_right := fun_mk (st := s_law_floor_right) l_law_floor_right c_law_floor_right k_law_floor_right
  have b_law_floor_right := F_law_floor_right.binds (ps := ["_law_mine", "_law_three_here", "_law_by"]) fun _ _ _ _ _ _ us hl => match us, hl with | [_, _, _], _ => rfl
  have D_law_floor_right : Df l.prog w K mg base 4 "_law_floor_right" ["_law_mine", "_law_three_here", "_law_by"] (spFloorRight C) := ⟨_, _, ok_floor_right F_law_floor_right T M_floor D_law_side, PySem.W.mg_of X G a_law_floor_right, k_law_floor_right, b_law_floor_right⟩
  have F_law_right := fun_mk (st := s_law_right) l_law_right c_law_right k_law_right
  have b_law_right := F_law_right.binds (ps := ["_law_cup_here"]) fun _ _ _ _ _ _ us hl => match us, hl with | [_], _ => rfl
  have D_law_right : Df l.prog w K mg base 7 "_law_right" ["_law_cup_here"] spRight := ⟨_, _, ok_right F_law_right T X_exact M_floor M_compare D_law_sip D_law_three D_law_ten D_law_floor_right D_law_end D_law_normal D_law_side D_law_told, PySem.W.mg_of X G a_law_right, k_law_right, b_law_right⟩
  exact ok_law (fun_mk (st := s_law) l_law c_law k_law) T X_exact M_floor M_compare D_law_cup D_law_right
end RL

open PySem PySem.W PyProof.Rows
set_option maxRecDepth 100000 in
set_option maxHeartbeats 0 in
theorem PySem.Challenge.cw_rungladders_k04_whole_exact_numbers_besi_holds : PySem.Challenge.rw_rungladders_k04_whole_exact_numbers_besi.Holds := by
  w_on; o_law; k_head; (case hw => w_witness2)
  k_fill
  refine L2.walk_of (l := PySem.Challenge.rw_rungladders_k04_whole_exact_numbers_besi) (n := 63) (k := 8) (x := "_law_script") (CX := fun _ => L2.CX0) (sp := fun w => RL.spLaw _) rfl (by decide) rfl ⟨rfl, by decide, by decide⟩ (fun w h Y => PySem.W.kIn_of Y) ?F (fun _ _ a ns hl _ hS => ⟨a, ns, rfl, hS, hl, fun _ => rfl⟩) (fun _ _ _ _ _ h => h)
  case F =>
    intro w mg fa h KX G hmg
    refine' RL.all_mk KX G hmg ?a_is_integer ?l_is_integer ?c_is_integer ?k_is_integer ?a_is_integer_within ?l_is_integer_within ?c_is_integer_within ?k_is_integer_within ?a_is_pair_of_integers ?l_is_pair_of_integers ?c_is_pair_of_integers ?k_is_pair_of_integers ?a_is_resistance ?l_is_resistance ?c_is_resistance ?k_is_resistance ?a_pair_of ?l_pair_of ?c_pair_of ?k_pair_of ?a_common_divisor ?l_common_divisor ?c_common_divisor ?k_common_divisor ?a_lowest_terms ?l_lowest_terms ?c_lowest_terms ?k_lowest_terms ?a_sign ?l_sign ?c_sign ?k_sign ?a_square_root ?l_square_root ?c_square_root ?k_square_root ?a_under_root ?l_under_root ?c_under_root ?k_under_root ?a_floor_of ?l_floor_of ?c_floor_of ?k_floor_of ?a_equation_of_fraction ?l_equation_of_fraction ?c_equation_of_fraction ?k_equation_of_fraction ?a_simplest_equation ?l_simplest_equation ?c_simplest_equation ?k_simplest_equation ?a_beside_fraction ?l_beside_fraction ?c_beside_fraction ?k_beside_fraction ?a_law_cup ?l_law_cup ?c_law_cup ?k_law_cup ?a_law_sip ?l_law_sip ?c_law_sip ?k_law_sip ?a_law_pick ?l_law_pick ?c_law_pick ?k_law_pick ?a_law_pair ?l_law_pair ?c_law_pair ?k_law_pair ?a_law_end ?l_law_end ?c_law_end ?k_law_end ?a_law_told ?l_law_told ?c_law_told ?k_law_told ?a_law_ten ?l_law_ten ?c_law_ten ?k_law_ten ?a_law_root ?l_law_root ?c_law_root ?k_law_root ?a_law_normal ?l_law_normal ?c_law_normal ?k_law_normal ?a_law_side ?l_law_side ?c_law_side ?k_law_side ?a_law_three ?l_law_three ?c_law_three ?k_law_three ?a_law_floor_right ?l_law_floor_right ?c_law_floor_right ?k_law_floor_right ?a_law_right ?l_law_right ?c_law_right ?k_law_right ?a_law ?l_law ?c_law ?k_law ?a_Exact_init ?i_Exact_init ?l_Exact_init ?c_Exact_init ?k_Exact_init ?a_Exact_compare ?i_Exact_compare ?l_Exact_compare ?c_Exact_compare ?k_Exact_compare ?a_Exact_floor ?i_Exact_floor ?l_Exact_floor ?c_Exact_floor ?k_Exact_floor ?aG ?aP ?aOp ?lOp ?aC ?pg ?hd ?po ?sa ?mk ?kc ?nP ?z_len ?z_abs ?z_int ?z_bool ?z_tuple ?z_isinstance ?z_divmod ?z_max ?z_min ?z_range ?z_all
    (case aC => k_is)
    (case a_is_integer => k_is)
    (case l_is_integer => k_is)
    (case c_is_integer => k_is)
    (case k_is_integer => k_is)
    (case a_is_integer_within => k_is)
    (case l_is_integer_within => k_is)
    (case c_is_integer_within => k_is)
    (case k_is_integer_within => k_is)
    (case a_is_pair_of_integers => k_is)
    (case l_is_pair_of_integers => k_is)
    (case c_is_pair_of_integers => k_is)
    (case k_is_pair_of_integers => k_is)
    (case a_is_resistance => k_is)
    (case l_is_resistance => k_is)
    (case c_is_resistance => k_is)
    (case k_is_resistance => k_is)
    (case a_pair_of => k_is)
    (case l_pair_of => k_is)
    (case c_pair_of => k_is)
    (case k_pair_of => k_is)
    (case a_common_divisor => k_is)
    (case l_common_divisor => k_is)
    (case c_common_divisor => k_is)
    (case k_common_divisor => k_is)
    (case a_lowest_terms => k_is)
    (case l_lowest_terms => k_is)
    (case c_lowest_terms => k_is)
    (case k_lowest_terms => k_is)
    (case a_sign => k_is)
    (case l_sign => k_is)
    (case c_sign => k_is)
    (case k_sign => k_is)
    (case a_square_root => k_is)
    (case l_square_root => k_is)
    (case c_square_root => k_is)
    (case k_square_root => k_is)
    (case a_under_root => k_is)
    (case l_under_root => k_is)
    (case c_under_root => k_is)
    (case k_under_root => k_is)
    (case a_floor_of => k_is)
    (case l_floor_of => k_is)
    (case c_floor_of => k_is)
    (case k_floor_of => k_is)
    (case a_equation_of_fraction => k_is)
    (case l_equation_of_fraction => k_is)
    (case c_equation_of_fraction => k_is)
    (case k_equation_of_fraction => k_is)
    (case a_simplest_equation => k_is)
    (case l_simplest_equation => k_is)
    (case c_simplest_equation => k_is)
    (case k_simplest_equation => k_is)
    (case a_beside_fraction => k_is)
    (case l_beside_fraction => k_is)
    (case c_beside_fraction => k_is)
    (case k_beside_fraction => k_is)
    (case a_law_cup => k_is)
    (case l_law_cup => k_is)
    (case c_law_cup => k_is)
    (case k_law_cup => k_is)
    (case a_law_sip => k_is)
    (case l_law_sip => k_is)
    (case c_law_sip => k_is)
    (case k_law_sip => k_is)
    (case a_law_pick => k_is)
    (case l_law_pick => k_is)
    (case c_law_pick => k_is)
    (case k_law_pick => k_is)
    (case a_law_pair => k_is)
    (case l_law_pair => k_is)
    (case c_law_pair => k_is)
    (case k_law_pair => k_is)
    (case a_law_end => k_is)
    (case l_law_end => k_is)
    (case c_law_end => k_is)
    (case k_law_end => k_is)
    (case a_law_told => k_is)
    (case l_law_told => k_is)
    (case c_law_told => k_is)
    (case k_law_told => k_is)
    (case a_law_ten => k_is)
    (case l_law_ten => k_is)
    (case c_law_ten => k_is)
    (case k_law_ten => k_is)
    (case a_law_root => k_is)
    (case l_law_root => k_is)
    (case c_law_root => k_is)
    (case k_law_root => k_is)
    (case a_law_normal => k_is)
    (case l_law_normal => k_is)
    (case c_law_normal => k_is)
    (case k_law_normal => k_is)
    (case a_law_side => k_is)
    (case l_law_side => k_is)
    (case c_law_side => k_is)
    (case k_law_side => k_is)
    (case a_law_three => k_is)
    (case l_law_three => k_is)
    (case c_law_three => k_is)
    (case k_law_three => k_is)
    (case a_law_floor_right => k_is)
    (case l_law_floor_right => k_is)
    (case c_law_floor_right => k_is)
    (case k_law_floor_right => k_is)
    (case a_law_right => k_is)
    (case l_law_right => k_is)
    (case c_law_right => k_is)
    (case k_law_right => k_is)
    (case a_law => k_is)
    (case l_law => k_is)
    (case c_law => k_is)
    (case k_law => k_is)
    (case a_Exact_init => k_is)
    (case i_Exact_init => k_is)
    (case l_Exact_init => k_is)
    (case c_Exact_init => k_is)
    (case k_Exact_init => k_is)
    (case a_Exact_compare => k_is)
    (case i_Exact_compare => k_is)
    (case l_Exact_compare => k_is)
    (case c_Exact_compare => k_is)
    (case k_Exact_compare => k_is)
    (case a_Exact_floor => k_is)
    (case i_Exact_floor => k_is)
    (case l_Exact_floor => k_is)
    (case c_Exact_floor => k_is)
    (case k_Exact_floor => k_is)
    (case aG => k_is)
    (case aP => k_is)
    (case aOp => k_is)
    (case lOp => k_is)
    (case pg => k_is)
    (case hd => k_is)
    (case po => k_is)
    (case sa => k_is)
    (case mk => k_is)
    (case kc => k_is)
    (case nP => k_is)
    (case z_len => k_is)
    (case z_abs => k_is)
    (case z_int => k_is)
    (case z_bool => k_is)
    (case z_tuple => k_is)
    (case z_isinstance => k_is)
    (case z_divmod => k_is)
    (case z_max => k_is)
    (case z_min => k_is)
    (case z_range => k_is)
    (case z_all => k_is)

