import PyProof.Rows.All
import Wide.All
import OpenK.AllK
import Wide.FinOn
import HandS.ForMost
import HandS.IsInst
import HandS.Wide
import HandS.WideBits
import HandS.MakeKwOnly
import HandS.SlotsOwn
import PyProof.ReprRoads
import HandS.Codes
import PySem.Challenge.RW_rungladders_k05_whole_order_of_exact_num
set_option Elab.async false
set_option linter.all false
set_option maxRecDepth 100000
/-! The mathematics: whole roots, common divisors, the one equation of a number, its sign beside a fraction. -/
namespace RL
/-- small: fewer than 2 ^ n -/
def Sm (n : Nat) (x : Int) : Prop := x.natAbs < 2 ^ n
theorem Sm.mono {m n : Nat} {x : Int} (h : Sm m x) (l : m ≤ n) : Sm n x := Nat.lt_of_lt_of_le h (Nat.pow_le_pow_right (by decide) l)
theorem Sm.mul {m n : Nat} {x y : Int} (h : Sm m x) (k : Sm n y) : Sm (m + n) (x * y) := by
  unfold Sm at *
  rw [Int.natAbs_mul, Nat.pow_add]
  exact Nat.mul_lt_mul'' h k
theorem Sm.add {n : Nat} {x y : Int} (h : Sm n x) (k : Sm n y) : Sm (n + 1) (x + y) := by
  unfold Sm at *
  rw [Nat.pow_succ]
  omega
theorem Sm.sub {n : Nat} {x y : Int} (h : Sm n x) (k : Sm n y) : Sm (n + 1) (x - y) := by
  unfold Sm at *
  rw [Nat.pow_succ]
  omega
theorem Sm.neg {n : Nat} {x : Int} (h : Sm n x) : Sm n (-x) := by
  unfold Sm at *
  omega
theorem Sm.of {n : Nat} {x y : Int} (h : Sm n y) (a : -y ≤ x) (b : x ≤ y) : Sm n x := by
  unfold Sm at *
  omega
theorem Sm.div {n : Nat} {x y : Int} (h : Sm n x) (hy : 0 < y) : Sm n (x / y) := by
  unfold Sm at *
  have h1 : (x / y).natAbs ≤ x.natAbs := by
    rcases Int.le_total 0 x with hx | hx
    · have := Int.ediv_le_self y hx
      have := Int.ediv_nonneg hx (Int.le_of_lt hy)
      omega
    · have h3 : x / y ≤ 0 := by
        have := Int.ediv_le_ediv hy hx
        simpa using this
      have h2 : x ≤ x / y := by
        have h4 : x * y ≤ x := by
          have q := Int.mul_nonneg (a := -x) (b := y - 1) (by omega) (by omega)
          have e : -x * (y - 1) = x - x * y := by grind
          omega
        exact (Int.le_ediv_iff_mul_le hy).mpr h4
      omega
  omega
theorem sm40 {x : Int} (a : -(10 ^ 40) ≤ x) (b : x ≤ 10 ^ 40) : Sm 133 x := by
  unfold Sm
  have : (10 : Int) ^ 40 < 2 ^ 133 := by decide
  have e : ((2 ^ 133 : Nat) : Int) = 2 ^ 133 := by decide
  omega
/-! ### whole roots -/
def IsRt (w r : Int) : Prop := 0 ≤ r ∧ r * r ≤ w ∧ w < (r + 1) * (r + 1)
theorem IsRt.le {w r s : Int} (h : IsRt w r) (k : IsRt w s) : r ≤ s := by
  obtain ⟨h0, h1, h2⟩ := h
  obtain ⟨k0, k1, k2⟩ := k
  rcases Int.lt_or_le s r with l | l
  · have : (s + 1) * (s + 1) ≤ r * r := Int.mul_le_mul (by omega) (by omega) (by omega) (by omega)
    omega
  · exact l
theorem IsRt.eq {w r s : Int} (h : IsRt w r) (k : IsRt w s) : r = s := Int.le_antisymm (h.le k) (k.le h)
def rtN : Nat → Nat
  | 0 => 0
  | n + 1 => if (rtN n + 1) * (rtN n + 1) ≤ n + 1 then rtN n + 1 else rtN n
theorem rtN_is : ∀ n, rtN n * rtN n ≤ n ∧ n < (rtN n + 1) * (rtN n + 1)
  | 0 => ⟨Nat.le_refl _, by decide⟩
  | n + 1 => by
    have ih := rtN_is n
    unfold rtN
    split
    · rename_i h
      refine ⟨h, ?_⟩
      have : (rtN n + 1 + 1) * (rtN n + 1 + 1) = (rtN n + 1) * (rtN n + 1) + 2 * (rtN n + 1) + 1 := by grind
      omega
    · rename_i h
      omega
def rt (w : Int) : Int := (rtN w.toNat : Int)
theorem rt_is {w : Int} (h : 0 ≤ w) : IsRt w (rt w) := by
  have k := rtN_is w.toNat
  have e : (w.toNat : Int) = w := Int.toNat_of_nonneg h
  refine ⟨Int.natCast_nonneg _, ?_, ?_⟩
  · have := Int.ofNat_le.mpr k.1
    rw [Int.natCast_mul, e] at this
    exact this
  · have := Int.ofNat_lt.mpr k.2
    rw [Int.natCast_mul, e, Int.natCast_add] at this
    exact this
theorem rt_of {w r : Int} (h : IsRt w r) : r = rt w := h.eq (rt_is (Int.le_trans (Int.mul_nonneg h.1 h.1) h.2.1))
theorem rt_sm {n : Nat} {w : Int} (h0 : 0 ≤ w) (h : Sm (2 * n) w) : Sm n (rt w) := by
  obtain ⟨a, b, _⟩ := rt_is h0
  unfold Sm at *
  refine Nat.lt_of_not_le fun q => ?_
  have e : (2 : Nat) ^ (2 * n) = 2 ^ n * 2 ^ n := by rw [← Nat.pow_add]; congr 1; omega
  have : 2 ^ n * 2 ^ n ≤ (rt w).natAbs * (rt w).natAbs := Nat.mul_le_mul q q
  have e2 : (rt w * rt w).natAbs = (rt w).natAbs * (rt w).natAbs := Int.natAbs_mul _ _
  have : (rt w * rt w).natAbs ≤ w.natAbs := by
    have := Int.mul_nonneg a a
    omega
  omega
/-- a step of Newton's -/
theorem newton {n g : Int} (hn : 0 ≤ n) (hg : 0 ≤ g) (h : n < (g + 1) * (g + 1)) (l : n < g * g) :
    0 < g ∧ 0 ≤ (g + n / g) / 2 ∧ (g + n / g) / 2 < g ∧ n < ((g + n / g) / 2 + 1) * ((g + n / g) / 2 + 1) := by
  have g0 : 0 < g := by
    rcases Int.lt_or_le 0 g with q | q
    · exact q
    · have : g = 0 := by omega
      subst this
      omega
  have q0 : 0 ≤ n / g := Int.ediv_nonneg hn hg
  have q1 : n < g * (n / g + 1) := by
    have := Int.lt_mul_ediv_self_add (x := n) (k := g) g0
    rw [Int.mul_add, Int.mul_one]
    exact this
  have q2 : n / g < g := Int.ediv_lt_of_lt_mul g0 l
  generalize n / g = q at *
  have hm : g + q ≤ 2 * ((g + q) / 2) + 1 := by omega
  have h0 : 0 ≤ (g + q) / 2 := by omega
  have h1 : (g + q) / 2 < g := by omega
  generalize (g + q) / 2 = m at *
  refine ⟨g0, h0, h1, ?_⟩
  have a1 : (g + q + 1) * (g + q + 1) ≤ (2 * (m + 1)) * (2 * (m + 1)) := Int.mul_le_mul (by omega) (by omega) (by omega) (by omega)
  have a2 : 0 ≤ (g - q - 1) * (g - q - 1) := by
    rcases Int.le_total 0 (g - q - 1) with z | z
    · exact Int.mul_nonneg z z
    · exact Int.mul_nonneg_of_nonpos_of_nonpos z z
  have a3 : (g + q + 1) * (g + q + 1) = 4 * (g * (q + 1)) + (g - q - 1) * (g - q - 1) := by grind
  have a4 : (2 * (m + 1)) * (2 * (m + 1)) = 4 * ((m + 1) * (m + 1)) := by grind
  omega
/-! ### common divisors -/
def gc (a b : Int) : Int := (Int.gcd a b : Int)
theorem gc_nonneg (a b : Int) : 0 ≤ gc a b := Int.natCast_nonneg _
theorem gc_pos {a b : Int} (h : a ≠ 0 ∨ b ≠ 0) : 0 < gc a b := by
  unfold gc
  have : 0 < Int.gcd a b := by
    rcases Nat.eq_zero_or_pos (Int.gcd a b) with z | z
    · rw [Int.gcd_eq_zero_iff] at z
      omega
    · exact z
  omega
theorem gc_dvd1 (a b : Int) : gc a b ∣ a := Int.gcd_dvd_left ..
theorem gc_dvd2 (a b : Int) : gc a b ∣ b := Int.gcd_dvd_right ..
theorem gc_zero {a : Int} (h : 0 ≤ a) : gc a 0 = a := by
  unfold gc
  rw [Int.gcd_zero_right]
  omega
theorem gc_step {a b : Int} (ha : 0 ≤ a) (hb : 0 < b) : gc b (a % b) = gc a b := by
  obtain ⟨n, rfl⟩ := Int.eq_ofNat_of_zero_le ha
  obtain ⟨m, rfl⟩ := Int.eq_ofNat_of_zero_le (Int.le_of_lt hb)
  unfold gc
  congr 1
  rw [← Int.natCast_emod, Int.gcd_natCast_natCast, Int.gcd_natCast_natCast, Nat.gcd_comm, ← Nat.gcd_rec, Nat.gcd_comm]
theorem gc_abs (a b : Int) : gc (if a < 0 then -a else a) (if b < 0 then -b else b) = gc a b := by
  unfold gc
  congr 1
  split <;> split <;> simp
theorem gc_abs2 (a b : Int) : gc a (if b < 0 then -b else b) = gc a b := by
  unfold gc
  congr 1
  split <;> simp
theorem ex_mul {g a : Int} (h : g ∣ a) (hg : 0 < g) : a = g * (a / g) := (Int.mul_ediv_cancel' h).symm
/-! ### the one equation of a number -/
/-- the parts of an equation that is accepted -/
def Good (a b c : Int) : Prop := (a = 0 ∧ 1 ≤ b ∧ 0 ≤ c) ∨ (1 ≤ a ∧ 1 ≤ c)
structure Nrm (a b c s l w : Int) : Prop where
  good : Good s l w
  /-- the sign beside x / y -/
  sgn : ∀ x y : Int, 0 ≤ x → 1 ≤ y → (0 < w * y * y - l * x * y - s * x * x ↔ a * x * x + b * x * y - c * y * y < 0) ∧ (w * y * y - l * x * y - s * x * x = 0 ↔ a * x * x + b * x * y - c * y * y = 0)
/-- multiplied by a number above 0 -/
theorem pos_iff {k u : Int} (hk : 0 < k) : (0 < k * u ↔ 0 < u) ∧ (k * u = 0 ↔ u = 0) := by
  refine ⟨⟨fun h => ?_, fun h => Int.mul_pos hk h⟩, ⟨fun h => ?_, fun h => by rw [h, Int.mul_zero]⟩⟩
  · rcases Int.lt_or_le 0 u with z | z
    · exact z
    · have := Int.mul_nonpos_of_nonneg_of_nonpos (Int.le_of_lt hk) z
      omega
  · rcases Int.mul_eq_zero.mp h with z | z
    · omega
    · exact z
theorem nrm_div {a b c g : Int} (h : Good a b c) (hg : 0 < g) (da : g ∣ a) (db : g ∣ b) (dc : g ∣ c) : Nrm a b c (a / g) (b / g) (c / g) := by
  have ea := ex_mul da hg
  have eb := ex_mul db hg
  have ec := ex_mul dc hg
  generalize a / g = s at *
  generalize b / g = l at *
  generalize c / g = w at *
  subst ea eb ec
  refine ⟨?_, fun x y hx hy => ?_⟩
  · rcases h with ⟨h1, h2, h3⟩ | ⟨h1, h2⟩
    · refine .inl ⟨((pos_iff hg).2.mp h1), ?_, ?_⟩
      · have := (pos_iff (u := l) hg).1.mp (by omega)
        omega
      · rcases Int.lt_or_le w 0 with z | z
        · have := Int.mul_neg_of_pos_of_neg hg z
          omega
        · exact z
    · refine .inr ⟨?_, ?_⟩
      · have := (pos_iff (u := s) hg).1.mp (by omega)
        omega
      · have := (pos_iff (u := w) hg).1.mp (by omega)
        omega
  · have e : g * s * x * x + g * l * x * y - g * w * y * y = -(g * (w * y * y - l * x * y - s * x * x)) := by grind
    rw [e]
    have := pos_iff (k := g) (u := w * y * y - l * x * y - s * x * x) hg
    refine ⟨?_, ?_⟩
    · rw [← this.1]; omega
    · rw [← this.2]; omega
theorem rt_gt {b t r : Int} (ht : 0 < t) (hr : 0 ≤ r) (e : b * b + t = r * r) : 0 < r + b ∧ 0 < r - b := by
  refine ⟨?_, ?_⟩
  · rcases Int.lt_or_le 0 (r + b) with z | z
    · exact z
    · have h1 : 0 ≤ (-b - r) * (-b + r) := Int.mul_nonneg (by omega) (by omega)
      have h2 : (-b - r) * (-b + r) = b * b - r * r := by grind
      omega
  · rcases Int.lt_or_le 0 (r - b) with z | z
    · exact z
    · have h1 : 0 ≤ (b - r) * (b + r) := Int.mul_nonneg (by omega) (by omega)
      have h2 : (b - r) * (b + r) = b * b - r * r := by grind
      omega
theorem nrm_root {a b c r g : Int} (ha : 1 ≤ a) (hc : 1 ≤ c) (hr : 0 ≤ r) (e : b * b + 4 * a * c = r * r) (hg : 0 < g) (d1 : g ∣ r - b) (d2 : g ∣ 2 * a) : Nrm a b c 0 (2 * a / g) ((r - b) / g) := by
  have hac : 0 < 4 * a * c := Int.mul_pos (by omega) (by omega)
  obtain ⟨p1, p2⟩ := rt_gt hac hr e
  have e1 := ex_mul d1 hg
  have e2 := ex_mul d2 hg
  have l0 : 1 ≤ 2 * a / g := by
    have := (pos_iff (u := 2 * a / g) hg).1.mp (by omega)
    omega
  have w0 : 1 ≤ (r - b) / g := by
    have := (pos_iff (u := (r - b) / g) hg).1.mp (by omega)
    omega
  generalize 2 * a / g = l at *
  generalize (r - b) / g = w at *
  refine ⟨.inl ⟨rfl, l0, by omega⟩, fun x y hx hy => ?_⟩
  have k : 0 < r * y + b * y + 2 * a * x := by
    have h1 : 0 < (r + b) * y := Int.mul_pos p1 (by omega)
    have h2 : 0 ≤ 2 * a * x := Int.mul_nonneg (by omega) hx
    have h3 : (r + b) * y = r * y + b * y := by grind
    omega
  have y0 : 0 < y := by omega
  -- y * g * (w y - l x) = y * ((r - b) y - 2 a x)
  have f1 : g * (w * y * y - l * x * y - 0 * x * x) = y * ((r - b) * y - 2 * a * x) := by
    rw [e1, e2]; grind
  have f2 : 4 * a * (c * y * y - a * x * x - b * x * y) = (r * y + b * y + 2 * a * x) * ((r - b) * y - 2 * a * x) := by grind
  have q1 := pos_iff (u := w * y * y - l * x * y - 0 * x * x) hg
  have q2 := pos_iff (u := (r - b) * y - 2 * a * x) y0
  have q3 := pos_iff (k := 4 * a) (u := c * y * y - a * x * x - b * x * y) (by omega)
  have q4 := pos_iff (u := (r - b) * y - 2 * a * x) k
  rw [f1] at q1
  rw [f2] at q3
  refine ⟨?_, ?_⟩
  · rw [← q1.1, q2.1, ← q4.1, q3.1]; omega
  · rw [← q1.2, q2.2, ← q4.2, q3.2]; omega
/-- what the program keeps of an equation -/
def parts (a b c : Int) : Int × Int × Int :=
  if a = 0 then (0, b / gc c b, c / gc c b)
  else if rt (b * b + 4 * a * c) * rt (b * b + 4 * a * c) = b * b + 4 * a * c then
    (0, 2 * a / gc (rt (b * b + 4 * a * c) - b) (2 * a), (rt (b * b + 4 * a * c) - b) / gc (rt (b * b + 4 * a * c) - b) (2 * a))
  else (a / gc (gc a b) c, b / gc (gc a b) c, c / gc (gc a b) c)
theorem inside_pos {a b c : Int} (h : 1 ≤ a ∧ 1 ≤ c) : 0 < 4 * a * c ∧ 0 ≤ b * b + 4 * a * c := by
  have hac : 0 < 4 * a * c := Int.mul_pos (by omega) (by omega)
  have hb : 0 ≤ b * b := by
    rcases Int.le_total 0 b with z | z
    · exact Int.mul_nonneg z z
    · exact Int.mul_nonneg_of_nonpos_of_nonpos z z
  omega
theorem parts_nrm {a b c : Int} (h : Good a b c) : Nrm a b c (parts a b c).1 (parts a b c).2.1 (parts a b c).2.2 := by
  unfold parts
  rcases h with ⟨rfl, h2, h3⟩ | h
  · rw [if_pos rfl]
    have g0 : 0 < gc c b := gc_pos (.inr (by omega))
    have := nrm_div (a := 0) (b := b) (c := c) (.inl ⟨rfl, h2, h3⟩) g0 (Int.dvd_zero _) (gc_dvd2 _ _) (gc_dvd1 _ _)
    rw [Int.zero_ediv] at this
    exact this
  · rw [if_neg (by omega)]
    have k := inside_pos (b := b) h
    split
    · rename_i e
      exact nrm_root h.1 h.2 (rt_is k.2).1 e.symm (gc_pos (.inr (by omega))) (gc_dvd1 _ _) (gc_dvd2 _ _)
    · exact nrm_div (.inr h) (gc_pos (.inr (by omega))) (Int.dvd_trans (gc_dvd1 _ _) (gc_dvd1 _ _)) (Int.dvd_trans (gc_dvd1 _ _) (gc_dvd2 _ _)) (gc_dvd2 _ _)
theorem parts_sm {a b c : Int} (h : Good a b c) (ha : Sm 133 a) (hb : Sm 133 b) (hc : Sm 133 c) : Sm 150 (parts a b c).1 ∧ Sm 150 (parts a b c).2.1 ∧ Sm 150 (parts a b c).2.2 := by
  unfold parts
  rcases h with ⟨rfl, h2, h3⟩ | h
  · rw [if_pos rfl]
    have g0 : 0 < gc c b := gc_pos (.inr (by omega))
    exact ⟨show Sm 150 0 by unfold Sm; decide, (hb.div g0).mono (by decide), (hc.div g0).mono (by decide)⟩
  · rw [if_neg (by omega)]
    have k := inside_pos (b := b) h
    have hd : Sm 270 (b * b + 4 * a * c) := by
      have h4 : Sm 3 4 := by unfold Sm; decide
      have e1 : Sm (133 + 133) (b * b) := hb.mul hb
      have e2 : Sm (3 + 133 + 133) (4 * a * c) := (h4.mul ha).mul hc
      exact (Sm.add (n := 269) (e1.mono (by decide)) (e2.mono (by decide)))
    have hr : Sm 135 (rt (b * b + 4 * a * c)) := rt_sm (n := 135) k.2 hd
    have h2 : Sm 2 2 := by unfold Sm; decide
    split
    · have g0 : 0 < gc (rt (b * b + 4 * a * c) - b) (2 * a) := gc_pos (.inr (by omega))
      refine ⟨show Sm 150 0 by unfold Sm; decide, ?_, ?_⟩
      · exact ((h2.mul ha).div g0).mono (by decide)
      · exact ((hr.sub (hb.mono (by decide))).div g0).mono (by decide)
    · have g0 : 0 < gc (gc a b) c := gc_pos (.inr (by omega))
      exact ⟨(ha.div g0).mono (by decide), (hb.div g0).mono (by decide), (hc.div g0).mono (by decide)⟩
/-! ### beside a fraction -/
def sg (n : Int) : Int := if 0 < n then 1 else if n < 0 then -1 else 0
/-- the law's side -/
def side (a b c x y : Int) : Int := if y = 0 then -1 else sg (-(a * x * x + b * x * y - c * y * y))
def beside (s l w x y : Int) : Int := sg (w * y * y - l * x * y - s * x * x)
theorem Nrm.side {a b c s l w x y : Int} (h : Nrm a b c s l w) (hx : 0 ≤ x) (hy : 1 ≤ y) : beside s l w x y = RL.side a b c x y := by
  obtain ⟨k1, k2⟩ := h.sgn x y hx hy
  unfold beside RL.side sg
  rw [if_neg (show ¬ y = 0 by omega)]
  generalize w * y * y - l * x * y - s * x * x = u at *
  generalize a * x * x + b * x * y - c * y * y = v at *
  by_cases p : 0 < u
  · have := k1.mp p
    rw [if_pos p, if_pos (by omega)]
  · by_cases q : u = 0
    · have := k2.mp q
      rw [if_neg p, if_neg (by omega), if_neg (by omega), if_neg (by omega)]
    · have : ¬ v < 0 := fun z => p (k1.mpr z)
      have : ¬ v = 0 := fun z => q (k2.mpr z)
      rw [if_neg p, if_pos (by omega), if_neg (by omega), if_pos (by omega)]
/-- the same fraction written otherwise -/
theorem side_same {a b c x y k : Int} (hk : 1 ≤ k) (hy : 1 ≤ y) : RL.side a b c (k * x) (k * y) = RL.side a b c x y := by
  unfold RL.side
  have h0 : ¬ k * y = 0 := by
    have := Int.mul_pos (a := k) (b := y) (by omega) (by omega)
    omega
  rw [if_neg h0, if_neg (show ¬ y = 0 by omega)]
  have kk : 0 < k * k := Int.mul_pos (by omega) (by omega)
  have e : -(a * (k * x) * (k * x) + b * (k * x) * (k * y) - c * (k * y) * (k * y)) = k * k * (-(a * x * x + b * x * y - c * y * y)) := by grind
  rw [e]
  generalize -(a * x * x + b * x * y - c * y * y) = u
  have q := pos_iff (u := u) kk
  unfold sg
  by_cases p : 0 < u
  · rw [if_pos p, if_pos (q.1.mpr p)]
  · by_cases z : u = 0
    · subst z
      rw [Int.mul_zero]
    · have h1 : ¬ 0 < k * k * u := fun t => p (q.1.mp t)
      have h2 : ¬ k * k * u = 0 := fun t => z (q.2.mp t)
      rw [if_neg p, if_pos (show u < 0 by omega), if_neg h1, if_pos (show k * k * u < 0 by omega)]
/-! ### floors -/
def flo (s l w t : Int) : Int := if s = 0 then t * w / l else (rt (t * t * (l * l + 4 * s * w)) - t * l) / (2 * s)
theorem flo_is {s l w t : Int} (h : Good s l w) (ht : 1 ≤ t) : 0 ≤ flo s l w t ∧ 0 ≤ beside s l w (flo s l w t) t ∧ beside s l w (flo s l w t + 1) t = -1 := by
  have sgp : ∀ n : Int, 0 ≤ n → 0 ≤ sg n := fun n hn => by
    unfold sg
    split
    · decide
    · split
      · omega
      · decide
  have sgn : ∀ n : Int, n < 0 → sg n = -1 := fun n hn => by
    unfold sg
    rw [if_neg (by omega), if_pos hn]
  unfold flo
  rcases h with ⟨rfl, h2, h3⟩ | h
  · rw [if_pos rfl]
    have l0 : 0 < l := by omega
    have d1 := Int.mul_ediv_self_le (x := t * w) (k := l) (by omega)
    have d2 := Int.lt_mul_ediv_self_add (x := t * w) (k := l) l0
    have d0 : 0 ≤ t * w / l := Int.ediv_nonneg (Int.mul_nonneg (by omega) h3) (by omega)
    generalize t * w / l = q at *
    refine ⟨d0, sgp _ ?_, sgn _ ?_⟩
    · have : w * t * t - l * q * t - 0 * q * q = t * (t * w - l * q) := by grind
      rw [this]
      exact Int.mul_nonneg (by omega) (by omega)
    · have : w * t * t - l * (q + 1) * t - 0 * (q + 1) * (q + 1) = -(t * (l * q + l - t * w)) := by grind
      rw [this]
      have := Int.mul_pos (a := t) (b := l * q + l - t * w) (by omega) (by omega)
      omega
  · rw [if_neg (by omega)]
    have hsw : 0 < 4 * s * w := Int.mul_pos (by omega) (by omega)
    have ll : 0 ≤ l * l := by
      rcases Int.le_total 0 l with z | z
      · exact Int.mul_nonneg z z
      · exact Int.mul_nonneg_of_nonpos_of_nonpos z z
    have w0 : 0 ≤ t * t * (l * l + 4 * s * w) := Int.mul_nonneg (Int.mul_nonneg (by omega) (by omega)) (by omega)
    obtain ⟨r0, r1, r2⟩ := rt_is w0
    generalize er : rt (t * t * (l * l + 4 * s * w)) = r at *
    -- r is at least t * l either way
    have rl : -r ≤ t * l ∧ t * l ≤ r := by
      have h0 : t * l * (t * l) ≤ t * t * (l * l + 4 * s * w) := by
        have e : t * t * (l * l + 4 * s * w) = t * l * (t * l) + t * t * (4 * s * w) := by grind
        have := Int.mul_nonneg (a := t * t) (b := 4 * s * w) (Int.mul_nonneg (by omega) (by omega)) (by omega)
        omega
      refine ⟨?_, ?_⟩
      · rcases Int.lt_or_le (t * l) (-r) with z | z
        · have : (r + 1) * (r + 1) ≤ (-(t * l)) * (-(t * l)) := Int.mul_le_mul (by omega) (by omega) (by omega) (by omega)
          have e : (-(t * l)) * (-(t * l)) = t * l * (t * l) := by grind
          omega
        · exact z
      · rcases Int.lt_or_le r (t * l) with z | z
        · have : (r + 1) * (r + 1) ≤ (t * l) * (t * l) := Int.mul_le_mul (by omega) (by omega) (by omega) (by omega)
          omega
        · exact z
    have s0 : 0 < 2 * s := by omega
    have d1 := Int.mul_ediv_self_le (x := r - t * l) (k := 2 * s) (by omega)
    have d2 := Int.lt_mul_ediv_self_add (x := r - t * l) (k := 2 * s) s0
    have d0 : 0 ≤ (r - t * l) / (2 * s) := Int.ediv_nonneg (by omega) (by omega)
    generalize (r - t * l) / (2 * s) = q at *
    have f : ∀ z : Int, 4 * s * (w * t * t - l * z * t - s * z * z) = t * t * (l * l + 4 * s * w) - (2 * s * z + t * l) * (2 * s * z + t * l) := fun z => by grind
    have sp : 0 < 4 * s := by omega
    refine ⟨d0, sgp _ ?_, sgn _ ?_⟩
    · have u1 : 0 ≤ 2 * s * q := Int.mul_nonneg (by omega) d0
      have u2 : (2 * s * q + t * l) * (2 * s * q + t * l) ≤ r * r := by
        rcases Int.le_total 0 (2 * s * q + t * l) with z | z
        · exact Int.mul_le_mul (by omega) (by omega) (by omega) (by omega)
        · have := Int.mul_le_mul (a := -(2 * s * q + t * l)) (b := -(2 * s * q + t * l)) (c := r) (d := r) (by omega) (by omega) (by omega) (by omega)
          have e : (-(2 * s * q + t * l)) * (-(2 * s * q + t * l)) = (2 * s * q + t * l) * (2 * s * q + t * l) := by grind
          omega
      have u3 := f q
      have u4 := pos_iff (u := w * t * t - l * q * t - s * q * q) sp
      rcases Int.lt_or_le (w * t * t - l * q * t - s * q * q) 0 with z | z
      · have := Int.mul_neg_of_pos_of_neg sp z
        omega
      · exact z
    · have u0 : 2 * s * (q + 1) = 2 * s * q + 2 * s := by grind
      have u2 : (r + 1) * (r + 1) ≤ (2 * s * (q + 1) + t * l) * (2 * s * (q + 1) + t * l) := Int.mul_le_mul (by omega) (by omega) (by omega) (by omega)
      have u3 := f (q + 1)
      rcases Int.lt_or_le (w * t * t - l * (q + 1) * t - s * (q + 1) * (q + 1)) 0 with z | z
      · exact z
      · have := Int.mul_nonneg (Int.le_of_lt sp) z
        omega
end RL

/-! The order of two numbers: by the program's signs, and that unlike small ones differ within thirty figures. -/
namespace RL
theorem sq_nn (x : Int) : 0 ≤ x * x := by
  rcases Int.le_total 0 x with z | z
  · exact Int.mul_nonneg z z
  · exact Int.mul_nonneg_of_nonpos_of_nonpos z z
/-- above 0 just if the number is greater than x / y -/
def Fv (s l w x y : Int) : Int := w * y * y - l * x * y - s * x * x
/-- further right it stays less -/
theorem fv_down {s l w x y x' y' : Int} (g : Good s l w) (hx : 0 ≤ x) (hy : 1 ≤ y) (hx' : 0 ≤ x') (hy' : 1 ≤ y') (h : Fv s l w x y < 0) (c : x * y' ≤ x' * y) : Fv s l w x' y' < 0 := by
  refine Classical.byContradiction fun q => ?_
  have yy : 0 < y * y' := Int.mul_pos (by omega) (by omega)
  have h1 : y' * y' * Fv s l w x y = w * (y * y') * (y * y') - l * (x * y') * (y * y') - s * (x * y') * (x * y') := by unfold Fv; grind
  have h2 : y * y * Fv s l w x' y' = w * (y * y') * (y * y') - l * (x' * y) * (y * y') - s * (x' * y) * (x' * y) := by unfold Fv; grind
  have k1 : y' * y' * Fv s l w x y < 0 := Int.mul_neg_of_pos_of_neg (Int.mul_pos (by omega) (by omega)) h
  have k2 : 0 ≤ y * y * Fv s l w x' y' := Int.mul_nonneg (sq_nn y) (by omega)
  have u0 : 0 ≤ x * y' := Int.mul_nonneg hx (by omega)
  generalize x * y' = u at *
  generalize x' * y = v at *
  generalize y * y' = Y at *
  have d : (v - u) * (l * Y + s * (u + v)) = l * v * Y + s * v * v - (l * u * Y + s * u * u) := by grind
  have k3 : (v - u) * (l * Y + s * (u + v)) < 0 := by omega
  have k4 : 0 < v - u := by
    rcases Int.lt_or_le 0 (v - u) with z | z
    · exact z
    · have : v - u = 0 := by omega
      rw [this, Int.zero_mul] at k3
      omega
  have k5 : l * Y + s * (u + v) < 0 := by
    refine Classical.byContradiction fun z => ?_
    have := Int.mul_nonneg (Int.le_of_lt k4) (Int.not_lt.mp z)
    omega
  rcases g with ⟨rfl, l0, w0⟩ | ⟨s0, w0⟩
  · have := Int.mul_pos (a := l) (b := Y) (by omega) yy
    omega
  · have e : u * (l * Y + s * u) = l * u * Y + s * u * u := by grind
    have p : 0 < w * Y * Y := Int.mul_pos (Int.mul_pos (by omega) yy) yy
    have k6 : 0 < u * (l * Y + s * u) := by omega
    have k7 : 0 < l * Y + s * u := by
      refine Classical.byContradiction fun z => ?_
      have := Int.mul_nonpos_of_nonneg_of_nonpos u0 (Int.not_lt.mp z)
      omega
    have k8 : 0 ≤ s * v := Int.mul_nonneg (by omega) (by omega)
    have e2 : s * (u + v) = s * u + s * v := by grind
    omega
theorem fv_down' {s l w x y x' y' : Int} (g : Good s l w) (hx : 0 ≤ x) (hy : 1 ≤ y) (hx' : 0 ≤ x') (hy' : 1 ≤ y') (h : Fv s l w x y ≤ 0) (c : x * y' < x' * y) : Fv s l w x' y' < 0 := by
  refine Classical.byContradiction fun q => ?_
  have yy : 0 < y * y' := Int.mul_pos (by omega) (by omega)
  have h1 : y' * y' * Fv s l w x y = w * (y * y') * (y * y') - l * (x * y') * (y * y') - s * (x * y') * (x * y') := by unfold Fv; grind
  have h2 : y * y * Fv s l w x' y' = w * (y * y') * (y * y') - l * (x' * y) * (y * y') - s * (x' * y) * (x' * y) := by unfold Fv; grind
  have k1 : y' * y' * Fv s l w x y ≤ 0 := Int.mul_nonpos_of_nonneg_of_nonpos (sq_nn y') h
  have k2 : 0 ≤ y * y * Fv s l w x' y' := Int.mul_nonneg (sq_nn y) (by omega)
  have u0 : 0 ≤ x * y' := Int.mul_nonneg hx (by omega)
  generalize x * y' = u at *
  generalize x' * y = v at *
  generalize y * y' = Y at *
  have d : (v - u) * (l * Y + s * (u + v)) = l * v * Y + s * v * v - (l * u * Y + s * u * u) := by grind
  have k3 : (v - u) * (l * Y + s * (u + v)) ≤ 0 := by omega
  have k4 : 0 < v - u := by omega
  have k5 : l * Y + s * (u + v) ≤ 0 := by
    refine Classical.byContradiction fun z => ?_
    have := Int.mul_pos k4 (Int.not_le.mp z)
    omega
  rcases g with ⟨rfl, l0, w0⟩ | ⟨s0, w0⟩
  · have := Int.mul_pos (a := l) (b := Y) (by omega) yy
    omega
  · have e : u * (l * Y + s * u) = l * u * Y + s * u * u := by grind
    have p : 0 < w * Y * Y := Int.mul_pos (Int.mul_pos (by omega) yy) yy
    have k6 : 0 < u * (l * Y + s * u) := by omega
    have k7 : 0 < l * Y + s * u := by
      refine Classical.byContradiction fun z => ?_
      have := Int.mul_nonpos_of_nonneg_of_nonpos u0 (Int.not_lt.mp z)
      omega
    have k8 : 0 ≤ s * v := Int.mul_nonneg (by omega) (by omega)
    have e2 : s * (u + v) = s * u + s * v := by grind
    omega
/-- further left it stays greater -/
theorem fv_up {s l w x y x' y' : Int} (g : Good s l w) (hx : 0 ≤ x) (hy : 1 ≤ y) (hx' : 0 ≤ x') (hy' : 1 ≤ y') (h : 0 ≤ Fv s l w x y) (c : x' * y < x * y') : 0 < Fv s l w x' y' := by
  refine Classical.byContradiction fun q => ?_
  have := fv_down' g hx' hy' hx hy (Int.not_lt.mp q) c
  omega
/-! ### the program's order -/
def sal0 (s l w sl h : Int) : Int := if sl = 0 ∨ h < 0 then sg (-h) else beside s l w h sl
def sal (s l w sl h : Int) : Int := if sl < 0 then -(sal0 s l w (-sl) (-h)) else sal0 s l w sl h
def ord (s l w s' l' w' : Int) : Int := if s' = 0 then beside s l w w' l' else -(sal s' l' w' (l * s' - l' * s) (w * s' - w' * s))
theorem sg_neg {n : Int} (h : n < 0) : sg n = -1 := by unfold sg; rw [if_neg (by omega), if_pos h]
theorem sg_pos {n : Int} (h : 0 < n) : sg n = 1 := by unfold sg; rw [if_pos h]
theorem sg_zero : sg 0 = 0 := by decide
theorem lin {s l w s' l' w' x y : Int} : s * Fv s' l' w' x y - s' * Fv s l w x y = y * ((l * s' - l' * s) * x - (w * s' - w' * s) * y) := by unfold Fv; grind
theorem lin0 {s l w s' l' w' : Int} : s' * Fv s l w (w * s' - w' * s) (l * s' - l' * s) = s * Fv s' l' w' (w * s' - w' * s) (l * s' - l' * s) := by unfold Fv; grind
theorem lin0' {s l w s' l' w' : Int} : s' * Fv s l w (-(w * s' - w' * s)) (-(l * s' - l' * s)) = s * Fv s' l' w' (-(w * s' - w' * s)) (-(l * s' - l' * s)) := by unfold Fv; grind
theorem ord_lt {s l w s' l' w' x y : Int} (g : Good s l w) (g' : Good s' l' w') (hx : 0 ≤ x) (hy : 1 ≤ y) (h : Fv s l w x y < 0) (h' : 0 ≤ Fv s' l' w' x y) : ord s l w s' l' w' = -1 := by
  unfold ord
  split
  · rename_i z
    subst z
    rcases g' with ⟨_, l0, w0⟩ | ⟨z, _⟩
    · refine sg_neg (fv_down g hx hy w0 l0 h ?_)
      have e : Fv 0 l' w' x y = y * (w' * y - l' * x) := by unfold Fv; grind
      rw [e] at h'
      have : 0 ≤ w' * y - l' * x := by
        refine Classical.byContradiction fun z => ?_
        have := Int.mul_neg_of_pos_of_neg (a := y) (by omega) (Int.not_le.mp z)
        omega
      have e2 : x * l' = l' * x := Int.mul_comm _ _
      omega
    · omega
  · rename_i z
    have g2 := g'
    rcases g' with g' | ⟨s0', w0'⟩
    · exact absurd g'.1 z
    have s0 : 0 ≤ s := by rcases g with g | g <;> omega
    -- the line at x / y
    have L : 0 < (l * s' - l' * s) * x - (w * s' - w' * s) * y := by
      have e := lin (s := s) (l := l) (w := w) (s' := s') (l' := l') (w' := w') (x := x) (y := y)
      have a1 : 0 ≤ s * Fv s' l' w' x y := Int.mul_nonneg s0 h'
      have a2 : s' * Fv s l w x y < 0 := Int.mul_neg_of_pos_of_neg (by omega) h
      refine Classical.byContradiction fun q => ?_
      have := Int.mul_nonpos_of_nonneg_of_nonpos (a := y) (by omega) (Int.not_lt.mp q)
      omega
    have e0 := lin0 (s := s) (l := l) (w := w) (s' := s') (l' := l') (w' := w')
    have e0' := lin0' (s := s) (l := l) (w := w) (s' := s') (l' := l') (w' := w')
    generalize l * s' - l' * s = sl at *
    generalize w * s' - w' * s = hh at *
    have goal1 : sal s' l' w' sl hh = 1 := by
      unfold sal sal0
      split
      · rename_i q
        -- falling line
        have m1 : sl * x ≤ 0 := Int.mul_nonpos_of_nonpos_of_nonneg (by omega) hx
        have h0 : hh < 0 := by
          refine Classical.byContradiction fun t => ?_
          have := Int.mul_nonneg (a := hh) (b := y) (by omega) (by omega)
          omega
        rw [if_neg (by omega)]
        have c : x * -sl < -hh * y := by
          have e1 : x * -sl = -(sl * x) := by grind
          have e2 : -hh * y = -(hh * y) := by grind
          omega
        have f1 := fv_down g hx hy (show 0 ≤ -hh by omega) (show 1 ≤ -sl by omega) h (Int.le_of_lt c)
        have f2 : s * Fv s' l' w' (-hh) (-sl) < 0 := by
          rw [← e0']
          exact Int.mul_neg_of_pos_of_neg (by omega) f1
        have f3 : Fv s' l' w' (-hh) (-sl) < 0 := by
          refine Classical.byContradiction fun t => ?_
          have := Int.mul_nonneg s0 (Int.not_lt.mp t)
          omega
        have f4 : beside s' l' w' (-hh) (-sl) = -1 := sg_neg f3
        rw [f4]
        decide
      · rename_i q
        split
        · rename_i t
          refine sg_pos ?_
          rcases t with t | t
          · subst t
            rw [Int.zero_mul] at L
            refine Classical.byContradiction fun r => ?_
            have := Int.mul_nonneg (a := hh) (b := y) (by omega) (by omega)
            omega
          · omega
        · rename_i t
          refine sg_pos (fv_up g2 hx hy (by omega) (by omega) h' ?_)
          have e1 : x * sl = sl * x := Int.mul_comm _ _
          omega
    rw [goal1]
theorem ord_gt {s l w s' l' w' x y : Int} (g : Good s l w) (g' : Good s' l' w') (hx : 0 ≤ x) (hy : 1 ≤ y) (h : Fv s l w x y < 0) (h' : 0 ≤ Fv s' l' w' x y) : ord s' l' w' s l w = 1 := by
  unfold ord
  split
  · rename_i z
    subst z
    rcases g with ⟨_, l0, w0⟩ | ⟨z, _⟩
    · refine sg_pos (fv_up g' hx hy w0 l0 h' ?_)
      have e : Fv 0 l w x y = y * (w * y - l * x) := by unfold Fv; grind
      rw [e] at h
      have : w * y - l * x < 0 := by
        refine Classical.byContradiction fun z => ?_
        have := Int.mul_nonneg (a := y) (by omega) (Int.not_lt.mp z)
        omega
      have e2 : x * l = l * x := Int.mul_comm _ _
      omega
    · omega
  · rename_i z
    have g2 := g
    rcases g with g | ⟨s0, w0⟩
    · exact absurd g.1 z
    have s0' : 0 ≤ s' := by rcases g' with g | g <;> omega
    have goal1 : sal s l w (l' * s - l * s') (w' * s - w * s') = -1 := by
      rcases Int.lt_or_le 0 s' with sp | sp
      · have L : (l' * s - l * s') * x < (w' * s - w * s') * y := by
          have e := lin (s := s) (l := l) (w := w) (s' := s') (l' := l') (w' := w') (x := x) (y := y)
          have a1 : 0 ≤ s * Fv s' l' w' x y := Int.mul_nonneg (by omega) h'
          have a2 : s' * Fv s l w x y < 0 := Int.mul_neg_of_pos_of_neg sp h
          have a3 : 0 < (l * s' - l' * s) * x - (w * s' - w' * s) * y := by
            refine Classical.byContradiction fun q => ?_
            have := Int.mul_nonpos_of_nonneg_of_nonpos (a := y) (by omega) (Int.not_lt.mp q)
            omega
          have e1 : (l * s' - l' * s) * x = -((l' * s - l * s') * x) := by grind
          have e2 : (w * s' - w' * s) * y = -((w' * s - w * s') * y) := by grind
          omega
        have e0 := lin0' (s := s') (l := l') (w := w') (s' := s) (l' := l) (w' := w)
        generalize l' * s - l * s' = sl at *
        generalize w' * s - w * s' = hh at *
        unfold sal sal0
        split
        · rename_i q
          have goal2 : (if -sl = 0 ∨ -hh < 0 then sg (- -hh) else beside s l w (-hh) (-sl)) = 1 := by
            split
            · rename_i t
              refine sg_pos ?_
              omega
            · rename_i t
              have c : -hh * y < x * -sl := by
                have e1 : x * -sl = -(sl * x) := by grind
                have e2 : -hh * y = -(hh * y) := by grind
                omega
              have f1 := fv_up g' hx hy (show 0 ≤ -hh by omega) (show 1 ≤ -sl by omega) h' c
              have f2 : 0 < s' * Fv s l w (-hh) (-sl) := by
                rw [← e0]
                exact Int.mul_pos (by omega) f1
              refine sg_pos (show 0 < Fv s l w (-hh) (-sl) from ?_)
              refine Classical.byContradiction fun t => ?_
              have := Int.mul_nonpos_of_nonneg_of_nonpos s0' (Int.not_lt.mp t)
              omega
          rw [goal2]
        · rename_i q
          have m1 : 0 ≤ sl * x := Int.mul_nonneg (by omega) hx
          have h0 : 0 < hh := by
            refine Classical.byContradiction fun t => ?_
            have := Int.mul_nonpos_of_nonpos_of_nonneg (a := hh) (b := y) (by omega) (by omega)
            omega
          split
          · exact sg_neg (by omega)
          · rename_i t
            refine sg_neg (fv_down g2 hx hy (by omega) (by omega) h ?_)
            have e1 : x * sl = sl * x := Int.mul_comm _ _
            omega
      · have s1 : s' = 0 := by omega
        subst s1
        rcases g' with ⟨_, l0, w0⟩ | ⟨zz, _⟩
        · have p1 : 0 < l' * s := Int.mul_pos (by omega) (by omega)
          have p2 : 0 ≤ w' * s := Int.mul_nonneg w0 (by omega)
          rw [Int.mul_zero, Int.mul_zero, Int.sub_zero, Int.sub_zero]
          unfold sal sal0
          rw [if_neg (by omega), if_neg (by omega)]
          refine sg_neg (fv_down g2 hx hy p2 p1 h ?_)
          have e : Fv 0 l' w' x y = y * (w' * y - l' * x) := by unfold Fv; grind
          rw [e] at h'
          have q : 0 ≤ w' * y - l' * x := by
            refine Classical.byContradiction fun z => ?_
            have := Int.mul_neg_of_pos_of_neg (a := y) (by omega) (Int.not_le.mp z)
            omega
          have q2 := Int.mul_nonneg q (show 0 ≤ s by omega)
          have e3 : (w' * y - l' * x) * s = w' * s * y - x * (l' * s) := by grind
          omega
        · omega
    rw [goal1]
    decide
/-- a number beside itself -/
theorem ord_self {s l w : Int} (g : Good s l w) : ord s l w s l w = 0 := by
  unfold ord
  split
  · rename_i z
    subst z
    unfold beside
    have e : w * l * l - l * w * l - 0 * w * w = 0 := by grind
    rw [e, sg_zero]
  · have e1 : l * s - l * s = 0 := by omega
    have e2 : w * s - w * s = 0 := by omega
    rw [e1, e2]
    unfold sal sal0
    rw [if_neg (by decide), if_pos (.inl rfl)]
    decide
/-! ### lowest terms, and one equation for one number -/
theorem gc_mul {k a b : Int} (hk : 0 ≤ k) : gc (k * a) (k * b) = k * gc a b := by
  unfold gc
  rw [Int.gcd_mul_left, Int.natCast_mul]
  congr 1
  omega
theorem gc_comm (a b : Int) : gc a b = gc b a := by
  unfold gc
  rw [Int.gcd_comm]
theorem cancel {a b c : Int} (ha : 0 < a) (h : a * b = a * c) : b = c := Int.eq_of_mul_eq_mul_left (by omega) h
theorem low_eq {c b p q : Int} (hb : 0 < b) (hq : 0 < q) (h : c * q = p * b) : b / gc c b = q / gc p q ∧ c / gc c b = p / gc p q := by
  have g1 : 0 < gc c b := gc_pos (.inr (by omega))
  have g2 : 0 < gc p q := gc_pos (.inr (by omega))
  have e : q * gc c b = b * gc p q := by
    rw [← gc_mul (by omega), ← gc_mul (by omega)]
    congr 1
    · rw [Int.mul_comm q c, h, Int.mul_comm]
    · exact Int.mul_comm _ _
  have b1 := ex_mul (gc_dvd2 c b) g1
  have c1 := ex_mul (gc_dvd1 c b) g1
  have q1 := ex_mul (gc_dvd2 p q) g2
  have p1 := ex_mul (gc_dvd1 p q) g2
  generalize b / gc c b = B at *
  generalize c / gc c b = Cc at *
  generalize q / gc p q = Qq at *
  generalize p / gc p q = Pp at *
  generalize gc c b = G at *
  generalize gc p q = K at *
  have gk : 0 < G * K := Int.mul_pos g1 g2
  have e1 : B = Qq := by
    refine cancel gk ?_
    rw [b1, q1] at e
    grind
  refine ⟨e1, ?_⟩
  have bp : 0 < B := by
    refine Classical.byContradiction fun z => ?_
    have := Int.mul_nonpos_of_nonneg_of_nonpos (Int.le_of_lt g1) (Int.not_lt.mp z)
    omega
  refine cancel (Int.mul_pos gk bp) ?_
  rw [c1, q1, p1, b1] at h
  subst e1
  grind
theorem dvd_sq {q m : Int} (h : q * q ∣ m * m) : q ∣ m := by
  have h1 : q.natAbs ^ 2 ∣ m.natAbs ^ 2 := by
    have := Int.natAbs_dvd_natAbs.mpr h
    rw [Int.natAbs_mul, Int.natAbs_mul] at this
    rw [Nat.pow_two, Nat.pow_two]
    exact this
  exact Int.natAbs_dvd_natAbs.mp ((Nat.pow_dvd_pow_iff (by decide)).mp h1)
/-- a number that is a fraction -/
theorem rat_root {a b c p q : Int} (g : Good a b c) (hp : 0 ≤ p) (hq : 1 ≤ q) (h : a * p * p + b * p * q = c * q * q) : parts a b c = (0, q / gc p q, p / gc p q) := by
  rcases g with ⟨rfl, b0, c0⟩ | ⟨a0, c0⟩
  · unfold parts
    rw [if_pos rfl]
    have h2 : c * q = p * b := by
      refine cancel (a := q) (by omega) ?_
      grind
    obtain ⟨e1, e2⟩ := low_eq (c := c) (b := b) (p := p) (q := q) (by omega) (by omega) h2
    rw [e1, e2]
  · have k : (b * b + 4 * a * c) * (q * q) = (2 * a * p + b * q) * (2 * a * p + b * q) := by grind
    obtain ⟨m, hm⟩ : q ∣ (2 * a * p + b * q) := dvd_sq ⟨b * b + 4 * a * c, by rw [← k, Int.mul_comm]⟩
    have qq : 0 < q * q := Int.mul_pos (by omega) (by omega)
    have d : b * b + 4 * a * c = m * m := by
      refine cancel qq ?_
      rw [hm] at k
      grind
    have hac : 0 < 4 * a * c := Int.mul_pos (by omega) (by omega)
    -- the root is m itself
    have m0 : 0 ≤ m := by
      refine Classical.byContradiction fun z => ?_
      have r := rt_gt (b := b) (r := -m) hac (by omega) (by rw [d]; grind)
      have e1 : 2 * a * p = q * (m - b) := by
        have : q * (m - b) = q * m - b * q := by grind
        omega
      have e2 : 0 ≤ 2 * a * p := Int.mul_nonneg (by omega) hp
      have e3 : q * (m - b) < 0 := Int.mul_neg_of_pos_of_neg (by omega) (by omega)
      omega
    have er : rt (b * b + 4 * a * c) = m := by
      refine (rt_of ⟨m0, by omega, ?_⟩).symm
      have : (m + 1) * (m + 1) = m * m + 2 * m + 1 := by grind
      omega
    unfold parts
    rw [if_neg (by omega), er, if_pos (by omega)]
    have h2 : (m - b) * q = p * (2 * a) := by
      have : (m - b) * q = q * m - b * q := by grind
      have : p * (2 * a) = 2 * a * p := by grind
      omega
    obtain ⟨e1, e2⟩ := low_eq (c := m - b) (b := 2 * a) (p := p) (q := q) (by omega) (by omega) h2
    rw [e1, e2]
/-- one equation a multiple of the other -/
theorem parts_prop {a b c a' b' c' : Int} (g : Good a b c) (g' : Good a' b' c') (h1 : a' * b = a * b') (h2 : a' * c = a * c') (h3 : b' * c = b * c') : parts a b c = parts a' b' c' := by
  rcases g with ⟨rfl, b0, c0⟩ | ⟨a0, c0⟩
  · have a1 : a' = 0 := by
      rw [Int.zero_mul] at h1
      rcases Int.mul_eq_zero.mp h1 with z | z <;> omega
    subst a1
    rcases g' with ⟨_, b0', c0'⟩ | g'
    · rw [rat_root (p := c) (q := b) (.inl ⟨rfl, b0, c0⟩) c0 b0 (by grind), rat_root (p := c) (q := b) (.inl ⟨rfl, b0', c0'⟩) c0 b0 ?_]
      have : b' * c * b = b * c' * b := by rw [h3]
      grind
    · omega
  · have gg : 1 ≤ a' ∧ 1 ≤ c' := by
      rcases g' with ⟨rfl, b1, c1⟩ | g'
      · rw [Int.zero_mul] at h1
        rcases Int.mul_eq_zero.mp h1.symm with z | z <;> omega
      · exact g'
    obtain ⟨a0', c0'⟩ := gg
    have ip := inside_pos (b := b) ⟨a0, c0⟩
    have ip' := inside_pos (b := b') ⟨a0', c0'⟩
    -- a root that is a fraction serves both
    have one : ∀ {r : Int}, 0 ≤ r → b * b + 4 * a * c = r * r → parts a b c = parts a' b' c' := fun {r} r0 e => by
      have rg := rt_gt ip.1 r0 e
      rw [rat_root (p := r - b) (q := 2 * a) (.inr ⟨a0, c0⟩) (by omega) (by omega) (by grind), rat_root (p := r - b) (q := 2 * a) (.inr ⟨a0', c0'⟩) (by omega) (by omega) ?_]
      refine cancel (a := a) (by omega) ?_
      have k : a' * (a * (r - b) * (r - b) + b * (r - b) * (2 * a)) = a' * (c * (2 * a) * (2 * a)) := by
        congr 1
        grind
      grind
    have two : ∀ {r : Int}, 0 ≤ r → b' * b' + 4 * a' * c' = r * r → parts a b c = parts a' b' c' := fun {r} r0 e => by
      have rg := rt_gt ip'.1 r0 e
      rw [rat_root (p := r - b') (q := 2 * a') (.inr ⟨a0', c0'⟩) (by omega) (by omega) (by grind), rat_root (p := r - b') (q := 2 * a') (.inr ⟨a0, c0⟩) (by omega) (by omega) ?_]
      refine cancel (a := a') (by omega) ?_
      have k : a * (a' * (r - b') * (r - b') + b' * (r - b') * (2 * a')) = a * (c' * (2 * a') * (2 * a')) := by
        congr 1
        grind
      grind
    by_cases e : rt (b * b + 4 * a * c) * rt (b * b + 4 * a * c) = b * b + 4 * a * c
    · exact one (rt_is ip.2).1 e.symm
    · by_cases e' : rt (b' * b' + 4 * a' * c') * rt (b' * b' + 4 * a' * c') = b' * b' + 4 * a' * c'
      · exact two (rt_is ip'.2).1 e'.symm
      · unfold parts
        rw [if_neg (by omega), if_neg e, if_neg (by omega), if_neg e']
        have G0 : 0 < gc (gc a b) c := gc_pos (.inr (by omega))
        have G0' : 0 < gc (gc a' b') c' := gc_pos (.inr (by omega))
        have eg : a' * gc (gc a b) c = a * gc (gc a' b') c' := by
          rw [← gc_mul (by omega), ← gc_mul (by omega), ← gc_mul (by omega), ← gc_mul (by omega), h1, h2, Int.mul_comm a' a]
        have x1 := ex_mul (Int.dvd_trans (gc_dvd1 (gc a b) c) (gc_dvd1 a b)) G0
        have x2 := ex_mul (Int.dvd_trans (gc_dvd1 (gc a b) c) (gc_dvd2 a b)) G0
        have x3 := ex_mul (gc_dvd2 (gc a b) c) G0
        have y1 := ex_mul (Int.dvd_trans (gc_dvd1 (gc a' b') c') (gc_dvd1 a' b')) G0'
        have y2 := ex_mul (Int.dvd_trans (gc_dvd1 (gc a' b') c') (gc_dvd2 a' b')) G0'
        have y3 := ex_mul (gc_dvd2 (gc a' b') c') G0'
        generalize a / gc (gc a b) c = A at *
        generalize b / gc (gc a b) c = B at *
        generalize c / gc (gc a b) c = D at *
        generalize a' / gc (gc a' b') c' = A' at *
        generalize b' / gc (gc a' b') c' = B' at *
        generalize c' / gc (gc a' b') c' = D' at *
        generalize gc (gc a b) c = G at *
        generalize gc (gc a' b') c' = G' at *
        have gg : 0 < G * G' := Int.mul_pos G0 G0'
        have ea : A = A' := by
          refine cancel gg ?_
          rw [x1, y1] at eg
          grind
        subst ea
        have Ap : 0 < A := by
          refine Classical.byContradiction fun z => ?_
          have := Int.mul_nonpos_of_nonneg_of_nonpos (Int.le_of_lt G0) (Int.not_lt.mp z)
          omega
        have ga : 0 < G * G' * A := Int.mul_pos gg Ap
        have eb : B = B' := by
          refine cancel ga ?_
          rw [x1, x2, y1, y2] at h1
          grind
        have ed : D = D' := by
          refine cancel ga ?_
          rw [x1, x3, y1, y3] at h2
          grind
        rw [eb, ed]
end RL

namespace RL
theorem mul_ab {x y X Y : Int} (hx : -X ≤ x ∧ x ≤ X) (hy : -Y ≤ y ∧ y ≤ Y) : -(X * Y) ≤ x * y ∧ x * y ≤ X * Y := by
  have X0 : 0 ≤ X := by omega
  have Y0 : 0 ≤ Y := by omega
  have a1 := Int.mul_nonneg (show 0 ≤ X - x by omega) (show 0 ≤ Y - y by omega)
  have a2 := Int.mul_nonneg (show 0 ≤ X + x by omega) (show 0 ≤ Y + y by omega)
  have a3 := Int.mul_nonneg (show 0 ≤ X - x by omega) (show 0 ≤ Y + y by omega)
  have a4 := Int.mul_nonneg (show 0 ≤ X + x by omega) (show 0 ≤ Y - y by omega)
  have e1 : (X - x) * (Y - y) = X * Y - X * y - x * Y + x * y := by grind
  have e2 : (X + x) * (Y + y) = X * Y + X * y + x * Y + x * y := by grind
  have e3 : (X - x) * (Y + y) = X * Y + X * y - x * Y - x * y := by grind
  have e4 : (X + x) * (Y - y) = X * Y - X * y + x * Y - x * y := by grind
  constructor <;> omega
structure Tiny (a b c : Int) : Prop where
  good : Good a b c
  ha : a ≤ 60
  hb : -61 ≤ b ∧ b ≤ 61
  hc : c ≤ 60
theorem Tiny.nn {a b c : Int} (h : Tiny a b c) : 0 ≤ a ∧ 0 ≤ c := by
  rcases h.good with g | g <;> omega
/-- how far the integer below is off -/
theorem off {a b c n N : Int} (t : Tiny a b c) (hN : 1 ≤ N) (hn : 0 ≤ n) (h1 : 0 ≤ Fv a b c n N) (h2 : Fv a b c (n + 1) N < 0) : n ≤ 62 * N ∧ Fv a b c n N ≤ 8000 * N := by
  obtain ⟨a0, c0⟩ := t.nn
  have nb : n ≤ 62 * N := by
    refine Classical.byContradiction fun q => ?_
    have q' : 62 * N < n := by omega
    rcases t.good with ⟨rfl, b0, _⟩ | ⟨a1, c1⟩
    · have e : Fv 0 b c n N = N * (c * N - b * n) := by unfold Fv; grind
      have k1 : n ≤ b * n := by
        have := Int.mul_le_mul_of_nonneg_right (a := 1) (b := b) (c := n) b0 hn
        omega
      have k2 : c * N ≤ 60 * N := Int.mul_le_mul_of_nonneg_right t.hc (by omega)
      have := Int.mul_neg_of_pos_of_neg (a := N) (b := c * N - b * n) (by omega) (by omega)
      omega
    · have k1 : n * n ≤ a * (n * n) := by
        have := Int.mul_le_mul_of_nonneg_right (a := 1) (b := a) (c := n * n) a1 (Int.mul_nonneg hn hn)
        omega
      have k2 : -61 * (n * N) ≤ b * (n * N) := Int.mul_le_mul_of_nonneg_right t.hb.1 (Int.mul_nonneg hn (by omega))
      have k3 : c * (N * N) ≤ 60 * (N * N) := Int.mul_le_mul_of_nonneg_right t.hc (Int.mul_nonneg (by omega) (by omega))
      have k4 : 62 * N * N ≤ n * (n - 61 * N) := Int.mul_le_mul (by omega) (by omega) (by omega) hn
      have e1 : Fv a b c n N = c * (N * N) - b * (n * N) - a * (n * n) := by unfold Fv; grind
      have e2 : n * (n - 61 * N) = n * n - 61 * (n * N) := by grind
      have e3 : 62 * N * N = 62 * (N * N) := by grind
      have k5 : 0 < N * N := Int.mul_pos (by omega) (by omega)
      omega
  refine ⟨nb, ?_⟩
  have e : Fv a b c n N - Fv a b c (n + 1) N = a * (2 * n + 1) + b * N := by unfold Fv; grind
  have k1 : a * (2 * n + 1) ≤ 60 * (2 * n + 1) := Int.mul_le_mul_of_nonneg_right t.ha (by omega)
  have k2 : b * N ≤ 61 * N := Int.mul_le_mul_of_nonneg_right t.hb.2 (by omega)
  omega
theorem sep {a b c a' b' c' n : Int} (t : Tiny a b c) (t' : Tiny a' b' c') (hn : 0 ≤ n)
    (h1 : 0 ≤ Fv a b c n 1000000000000000000000000000000) (h2 : Fv a b c (n + 1) 1000000000000000000000000000000 < 0)
    (h1' : 0 ≤ Fv a' b' c' n 1000000000000000000000000000000) (h2' : Fv a' b' c' (n + 1) 1000000000000000000000000000000 < 0) : parts a b c = parts a' b' c' := by
  obtain ⟨nb, k1⟩ := off t (by decide) hn h1 h2
  obtain ⟨_, k1'⟩ := off t' (by decide) hn h1' h2'
  obtain ⟨a0, c0⟩ := t.nn
  obtain ⟨a0', c0'⟩ := t'.nn
  have bA := t.ha
  have bA' := t'.ha
  have bC := t.hc
  have bC' := t'.hc
  have e1 : a' * Fv a b c n 1000000000000000000000000000000 - a * Fv a' b' c' n 1000000000000000000000000000000 = -(1000000000000000000000000000000 * ((a' * b - a * b') * n - (a' * c - a * c') * 1000000000000000000000000000000)) := by unfold Fv; grind
  have m1 := mul_ab (x := a') (y := Fv a b c n 1000000000000000000000000000000) (X := 60) (Y := 8000 * 1000000000000000000000000000000) (by omega) (by omega)
  have m1' := mul_ab (x := a) (y := Fv a' b' c' n 1000000000000000000000000000000) (X := 60) (Y := 8000 * 1000000000000000000000000000000) (by omega) (by omega)
  have m1n : 0 ≤ a' * Fv a b c n 1000000000000000000000000000000 := Int.mul_nonneg a0' h1
  have m1n' : 0 ≤ a * Fv a' b' c' n 1000000000000000000000000000000 := Int.mul_nonneg a0 h1'
  -- the line's rest
  have eps : -480000 ≤ (a' * b - a * b') * n - (a' * c - a * c') * 1000000000000000000000000000000 ∧ (a' * b - a * b') * n - (a' * c - a * c') * 1000000000000000000000000000000 ≤ 480000 := by omega
  have s1 := mul_ab (x := a') (y := b) (X := 60) (Y := 61) (by omega) t.hb
  have s2 := mul_ab (x := a) (y := b') (X := 60) (Y := 61) (by omega) t'.hb
  have s3 := mul_ab (x := a') (y := c) (X := 60) (Y := 60) (by omega) (by omega)
  have s4 := mul_ab (x := a) (y := c') (X := 60) (Y := 60) (by omega) (by omega)
  have hs : -7320 ≤ a' * b - a * b' ∧ a' * b - a * b' ≤ 7320 := by omega
  have hh : -7200 ≤ a' * c - a * c' ∧ a' * c - a * c' ≤ 7200 := by omega
  -- the equation's own rest at the line's zero
  have rest : ∀ (u v w : Int), Tiny u v w → 0 ≤ Fv u v w n 1000000000000000000000000000000 → Fv u v w n 1000000000000000000000000000000 ≤ 8000 * 1000000000000000000000000000000 →
      w * (a' * b - a * b') * (a' * b - a * b') - v * (a' * c - a * c') * (a' * b - a * b') - u * (a' * c - a * c') * (a' * c - a * c') = 0 := fun u v w tt f0 f1 => by
    obtain ⟨u0, w0⟩ := tt.nn
    have bu := tt.ha
    have bv := tt.hb
    generalize a' * b - a * b' = S at *
    generalize a' * c - a * c' = T at *
    generalize ee : S * n - T * 1000000000000000000000000000000 = ε at *
    have key : 1000000000000000000000000000000 * (1000000000000000000000000000000 * (w * S * S - v * T * S - u * T * T)) = S * S * Fv u v w n 1000000000000000000000000000000 + 1000000000000000000000000000000 * (ε * (v * S + 2 * u * T)) + u * (ε * ε) := by
      unfold Fv
      subst ee
      grind
    have q1 := mul_ab (x := S) (y := S) hs hs
    have q2 := mul_ab (x := S * S) (y := Fv u v w n 1000000000000000000000000000000) (X := 7320 * 7320) (Y := 8000 * 1000000000000000000000000000000) q1 (by omega)
    have q3 := mul_ab (x := v) (y := S) bv hs
    have q4 := mul_ab (x := u) (y := T) (X := 60) (Y := 7200) (by omega) hh
    have q5 := mul_ab (x := ε) (y := v * S + 2 * u * T) (X := 480000) (Y := 61 * 7320 + 2 * (60 * 7200)) eps (by
      have : 2 * u * T = 2 * (u * T) := by grind
      omega)
    have q6 := mul_ab (x := ε) (y := ε) eps eps
    have q7 := mul_ab (x := u) (y := ε * ε) (X := 60) (Y := 480000 * 480000) (by omega) q6
    omega
  have R := rest a b c t h1 k1
  have R' := rest a' b' c' t' h1' k1'
  have g := t.good
  have g' := t'.good
  by_cases z : a' * b - a * b' = 0
  · rw [z] at eps
    have z2 : a' * c - a * c' = 0 := by
      generalize a' * c - a * c' = T at *
      omega
    rcases g with ⟨rfl, b0, _⟩ | ⟨a1, c1⟩
    · have az : a' = 0 := by
        have : a' * b = 0 := by omega
        rcases Int.mul_eq_zero.mp this with y | y <;> omega
      subst az
      rcases g' with ⟨_, b0', _⟩ | g'
      · -- two fractions
        have bb := t.hb
        have bb' := t'.hb
        have e2 : Fv 0 b c n 1000000000000000000000000000000 - Fv 0 b c (n + 1) 1000000000000000000000000000000 = b * 1000000000000000000000000000000 := by unfold Fv; grind
        have e2' : Fv 0 b' c' n 1000000000000000000000000000000 - Fv 0 b' c' (n + 1) 1000000000000000000000000000000 = b' * 1000000000000000000000000000000 := by unfold Fv; grind
        have e3 : b' * Fv 0 b c n 1000000000000000000000000000000 - b * Fv 0 b' c' n 1000000000000000000000000000000 = 1000000000000000000000000000000 * (1000000000000000000000000000000 * (b' * c - b * c')) := by unfold Fv; grind
        have w1 := mul_ab (x := b') (y := Fv 0 b c n 1000000000000000000000000000000) (X := 61) (Y := 61 * 1000000000000000000000000000000) (by omega) (by omega)
        have w2 := mul_ab (x := b) (y := Fv 0 b' c' n 1000000000000000000000000000000) (X := 61) (Y := 61 * 1000000000000000000000000000000) (by omega) (by omega)
        refine parts_prop t.good t'.good (by omega) (by omega) ?_
        generalize b' * c = M at *
        generalize b * c' = M' at *
        omega
      · omega
    · refine parts_prop t.good t'.good (by omega) (by omega) ?_
      refine cancel (a := a) (by omega) ?_
      have y1 : a' * b = a * b' := by omega
      have y2 : a' * c = a * c' := by omega
      have : a * (b' * c) = a * b' * c := by grind
      rw [this, ← y1]
      have : a * (b * c') = b * (a * c') := by grind
      rw [this, ← y2]
      grind
  · generalize a' * b - a * b' = S at *
    generalize a' * c - a * c' = T at *
    rcases Int.lt_or_le 0 S with sp | sp
    · have T0 : 0 ≤ T := by
        have := Int.mul_nonneg (Int.le_of_lt sp) hn
        omega
      rw [rat_root (p := T) (q := S) t.good T0 sp (by grind), rat_root (p := T) (q := S) t'.good T0 sp (by grind)]
    · have T0 : 0 ≤ -T := by
        have := Int.mul_nonneg (show 0 ≤ -S by omega) hn
        have e : -S * n = -(S * n) := by grind
        omega
      rw [rat_root (p := -T) (q := -S) t.good T0 (by omega) (by grind), rat_root (p := -T) (q := -S) t'.good T0 (by omega) (by grind)]
end RL

namespace RL
theorem Nrm.fv {a b c s l w x y : Int} (N : Nrm a b c s l w) (hx : 0 ≤ x) (hy : 1 ≤ y) : (Fv s l w x y < 0 ↔ Fv a b c x y < 0) ∧ (0 ≤ Fv s l w x y ↔ 0 ≤ Fv a b c x y) := by
  obtain ⟨k1, k2⟩ := N.sgn x y hx hy
  have e : Fv a b c x y = -(a * x * x + b * x * y - c * y * y) := by unfold Fv; omega
  have e2 : Fv s l w x y = w * y * y - l * x * y - s * x * x := rfl
  rw [e, e2]
  generalize w * y * y - l * x * y - s * x * x = u at *
  generalize a * x * x + b * x * y - c * y * y = v at *
  constructor <;> constructor <;> intro h <;> omega
theorem sg_nn {n : Int} (h : 0 ≤ sg n) : 0 ≤ n := by
  refine Classical.byContradiction fun z => ?_
  rw [sg_neg (by omega)] at h
  omega
theorem sg_m1 {n : Int} (h : sg n = -1) : n < 0 := by
  refine Classical.byContradiction fun z => ?_
  rcases Int.lt_or_le 0 n with q | q
  · rw [sg_pos q] at h
    omega
  · have : n = 0 := by omega
    subst this
    rw [sg_zero] at h
    omega
theorem flo_fv {a b c t : Int} (g : Good a b c) (ht : 1 ≤ t) : 0 ≤ flo a b c t ∧ 0 ≤ Fv a b c (flo a b c t) t ∧ Fv a b c (flo a b c t + 1) t < 0 := by
  obtain ⟨h0, h1, h2⟩ := flo_is g ht
  exact ⟨h0, sg_nn h1, sg_m1 h2⟩
abbrev ordP (p q : Int × Int × Int) : Int := ord p.1 p.2.1 p.2.2 q.1 q.2.1 q.2.2
theorem flo_lt {a b c a' b' c' t : Int} (g : Good a b c) (g' : Good a' b' c') (ht : 1 ≤ t) (h : flo a b c t < flo a' b' c' t) : ordP (parts a b c) (parts a' b' c') = -1 ∧ ordP (parts a' b' c') (parts a b c) = 1 := by
  obtain ⟨h0, h1, h2⟩ := flo_fv g ht
  obtain ⟨h0', h1', h2'⟩ := flo_fv g' ht
  have N := parts_nrm g
  have N' := parts_nrm g'
  have k : Fv a b c (flo a' b' c' t) t < 0 := fv_down g (by omega) ht h0' ht h2 (Int.mul_le_mul_of_nonneg_right (by omega) (by omega))
  have f := (N.fv h0' ht).1.mpr k
  have f' := (N'.fv h0' ht).2.mpr h1'
  exact ⟨ord_lt N.good N'.good h0' ht f f', ord_gt N.good N'.good h0' ht f f'⟩
def dueAt (a b c a' b' c' : Int) : List Nat → Int
  | [] => 0
  | n :: r => if flo a b c (10 ^ n) = flo a' b' c' (10 ^ n) then dueAt a b c a' b' c' r else if flo a b c (10 ^ n) < flo a' b' c' (10 ^ n) then -1 else 1
def dueV (a b c a' b' c' : Int) : Int := if parts a b c = parts a' b' c' then 0 else dueAt a b c a' b' c' [3, 12, 30]
theorem ten_pos (n : Nat) : (1 : Int) ≤ 10 ^ n := by
  have e : ((10 ^ n : Nat) : Int) = 10 ^ n := by rw [Int.natCast_pow]; rfl
  have : 0 < 10 ^ n := Nat.pow_pos (by decide)
  rw [← e]
  omega
theorem dueAt_ok {a b c a' b' c' : Int} (g : Good a b c) (g' : Good a' b' c') : ∀ ns : List Nat, (∃ n ∈ ns, flo a b c (10 ^ n) ≠ flo a' b' c' (10 ^ n)) →
    ordP (parts a b c) (parts a' b' c') = dueAt a b c a' b' c' ns ∧ ordP (parts a' b' c') (parts a b c) = -dueAt a b c a' b' c' ns ∧ dueAt a b c a' b' c' ns ≠ 0
  | [], h => by
    obtain ⟨n, hn, _⟩ := h
    cases hn
  | n :: r, h => by
    unfold dueAt
    split
    · rename_i e
      refine dueAt_ok g g' r ?_
      obtain ⟨m, hm, q⟩ := h
      rcases List.mem_cons.mp hm with rfl | hm
      · exact absurd e q
      · exact ⟨m, hm, q⟩
    · rename_i e
      split
      · rename_i l
        obtain ⟨q1, q2⟩ := flo_lt g g' (ten_pos n) l
        exact ⟨q1, q2, by decide⟩
      · rename_i l
        obtain ⟨q1, q2⟩ := flo_lt g' g (ten_pos n) (show flo a' b' c' (10 ^ n) < flo a b c (10 ^ n) by omega)
        exact ⟨q2, q1, by decide⟩
theorem due_ok {a b c a' b' c' : Int} (g : Good a b c) (g' : Good a' b' c') (t : parts a b c = parts a' b' c' ∨ (Tiny a b c ∧ Tiny a' b' c')) :
    ordP (parts a b c) (parts a' b' c') = dueV a b c a' b' c' ∧ ordP (parts a' b' c') (parts a b c) = -dueV a b c a' b' c' ∧ (dueV a b c a' b' c' = 0 ↔ parts a b c = parts a' b' c') := by
  unfold dueV
  by_cases e : parts a b c = parts a' b' c'
  · rw [if_pos e, ← e]
    have N := parts_nrm g
    refine ⟨ord_self N.good, ?_, fun _ => rfl, fun _ => rfl⟩
    show ord _ _ _ _ _ _ = -0
    rw [ord_self N.good]
    rfl
  · rw [if_neg e]
    rcases t with t | ⟨t, t'⟩
    · exact absurd t e
    · have k : ∃ n ∈ [3, 12, 30], flo a b c (10 ^ n) ≠ flo a' b' c' (10 ^ n) := by
        refine ⟨30, by simp, fun z => e ?_⟩
        have e30 : (10 : Int) ^ 30 = 1000000000000000000000000000000 := by decide
        rw [e30] at z
        obtain ⟨h0, h1, h2⟩ := flo_fv g (t := 1000000000000000000000000000000) (by decide)
        obtain ⟨h0', h1', h2'⟩ := flo_fv g' (t := 1000000000000000000000000000000) (by decide)
        rw [← z] at h1' h2'
        exact sep t t' h0 h1 h2 h1' h2'
      obtain ⟨q1, q2, q3⟩ := dueAt_ok g g' _ k
      exact ⟨q1, q2, fun z => absurd z q3, fun z => absurd z e⟩
/-! ### k + sqrt(k * k + 1) and sqrt(4 * k * k + 2) -/
theorem gc_one (x : Int) : gc 1 x = 1 := by
  unfold gc
  simp
theorem near1 {k : Int} (hk : 1 ≤ k) : parts 1 (-2 * k) 1 = (1, -2 * k, 1) := by
  have r : rt (-2 * k * (-2 * k) + 4 * 1 * 1) = 2 * k := by
    refine (rt_of ⟨by omega, ?_, ?_⟩).symm
    · have : 2 * k * (2 * k) = -2 * k * (-2 * k) := by grind
      omega
    · have e1 : (2 * k + 1) * (2 * k + 1) = -2 * k * (-2 * k) + 4 * k + 1 := by grind
      omega
  unfold parts
  rw [if_neg (by decide), r, if_neg ?_]
  · have g2 : gc 1 1 = 1 := by decide
    rw [gc_one, g2]
    simp
  · have : 2 * k * (2 * k) = -2 * k * (-2 * k) := by grind
    omega
theorem near2 {k : Int} (hk : 1 ≤ k) : parts 1 0 (4 * k * k + 2) = (1, 0, 4 * k * k + 2) := by
  have e0 : 0 * 0 + 4 * 1 * (4 * k * k + 2) = 16 * (k * k) + 8 := by grind
  have r : rt (0 * 0 + 4 * 1 * (4 * k * k + 2)) = 4 * k := by
    rw [e0]
    refine (rt_of ⟨by omega, ?_, ?_⟩).symm
    · have : 4 * k * (4 * k) = 16 * (k * k) := by grind
      omega
    · have e1 : (4 * k + 1) * (4 * k + 1) = 16 * (k * k) + 8 * k + 1 := by grind
      omega
  unfold parts
  rw [if_neg (by decide), r, if_neg ?_]
  · rw [gc_one, gc_one]
    simp
  · rw [e0]
    have : 4 * k * (4 * k) = 16 * (k * k) := by grind
    omega
theorem near_ord {k : Int} (hk : 1 ≤ k) : ord 1 (-2 * k) 1 1 0 (4 * k * k + 2) = -1 ∧ ord 1 0 (4 * k * k + 2) 1 (-2 * k) 1 = 1 := by
  have kk : 0 ≤ k * k := sq_nn k
  have e4 : 4 * k * k = 4 * (k * k) := by grind
  refine ⟨?_, ?_⟩
  · unfold ord
    rw [if_neg (by decide)]
    have a1 : -2 * k * 1 - 0 * 1 = -(2 * k) := by omega
    have a2 : 1 * 1 - (4 * k * k + 2) * 1 = -(4 * k * k + 1) := by omega
    rw [a1, a2]
    unfold sal sal0
    rw [if_pos (by omega), if_neg (by omega), Int.neg_neg, Int.neg_neg, Int.neg_neg]
    have f : beside 1 0 (4 * k * k + 2) (4 * k * k + 1) (2 * k) = -1 := by
      refine sg_neg ?_
      have : (4 * k * k + 2) * (2 * k) * (2 * k) - 0 * (4 * k * k + 1) * (2 * k) - 1 * (4 * k * k + 1) * (4 * k * k + 1) = -1 := by grind
      omega
    rw [f]
  · unfold ord
    rw [if_neg (by decide)]
    have a1 : 0 * 1 - -2 * k * 1 = 2 * k := by omega
    have a2 : (4 * k * k + 2) * 1 - 1 * 1 = 4 * k * k + 1 := by omega
    rw [a1, a2]
    unfold sal sal0
    rw [if_neg (by omega), if_neg (by omega)]
    have f : beside 1 (-2 * k) 1 (4 * k * k + 1) (2 * k) = -1 := by
      refine sg_neg ?_
      have : 1 * (2 * k) * (2 * k) - -2 * k * (4 * k * k + 1) * (2 * k) - 1 * (4 * k * k + 1) * (4 * k * k + 1) = -1 := by grind
      omega
    rw [f]
    decide
/-! ### a number and a fraction -/
theorem sg_scale {k u : Int} (hk : 0 < k) : sg (k * u) = sg u := by
  have q := pos_iff (u := u) hk
  unfold sg
  by_cases p : 0 < u
  · rw [if_pos p, if_pos (q.1.mpr p)]
  · by_cases z : u = 0
    · subst z
      rw [Int.mul_zero]
    · have h1 : ¬ 0 < k * u := fun t => p (q.1.mp t)
      have h2 : ¬ k * u = 0 := fun t => z (q.2.mp t)
      rw [if_neg p, if_pos (show u < 0 by omega), if_neg h1, if_pos (show k * u < 0 by omega)]
theorem sg_opp (u : Int) : sg (-u) = -sg u := by
  unfold sg
  by_cases p : 0 < u
  · rw [if_pos p, if_neg (by omega), if_pos (by omega)]
  · by_cases z : u < 0
    · rw [if_neg p, if_pos z, if_pos (by omega)]
      decide
    · rw [if_neg p, if_neg z, if_neg (by omega), if_neg (by omega)]
      decide
theorem ord_frac {a b c y v : Int} (g : Good a b c) (hy : 1 ≤ y) (hv : 0 ≤ v) : ordP (parts a b c) (parts 0 y v) = side a b c v y ∧ ordP (parts 0 y v) (parts a b c) = -side a b c v y := by
  have N := parts_nrm g
  have g0 : 0 < gc v y := gc_pos (.inr (by omega))
  have ey := ex_mul (gc_dvd2 v y) g0
  have ev := ex_mul (gc_dvd1 v y) g0
  have epr : parts 0 y v = (0, y / gc v y, v / gc v y) := by unfold parts; rw [if_pos rfl]
  rw [epr]
  have y1 : 1 ≤ y / gc v y := by
    refine Classical.byContradiction fun z => ?_
    have := Int.mul_nonpos_of_nonneg_of_nonpos (a := gc v y) (b := y / gc v y) (by omega) (by omega)
    omega
  have v1 : 0 ≤ v / gc v y := Int.ediv_nonneg hv (by omega)
  have es : side a b c v y = side a b c (v / gc v y) (y / gc v y) := by
    have := side_same (a := a) (b := b) (c := c) (x := v / gc v y) (y := y / gc v y) (k := gc v y) (by omega) y1
    rw [← ev, ← ey] at this
    exact this
  rw [es, ← N.side v1 y1]
  generalize y / gc v y = Y at *
  generalize v / gc v y = W at *
  have gd := N.good
  show ord (parts a b c).1 (parts a b c).2.1 (parts a b c).2.2 0 Y W = _ ∧ ord 0 Y W (parts a b c).1 (parts a b c).2.1 (parts a b c).2.2 = _
  generalize (parts a b c).1 = s at *
  generalize (parts a b c).2.1 = l at *
  generalize (parts a b c).2.2 = w at *
  refine ⟨?_, ?_⟩
  · unfold ord
    rw [if_pos rfl]
  · unfold ord
    split
    · rename_i z
      subst z
      rcases gd with ⟨_, l0, w0⟩ | ⟨zz, _⟩
      · unfold beside
        have e1 : W * l * l - Y * w * l - 0 * w * w = l * (W * l - Y * w) := by grind
        have e2 : w * Y * Y - l * W * Y - 0 * W * W = Y * -(W * l - Y * w) := by grind
        rw [e1, e2, sg_scale (by omega), sg_scale (by omega), sg_opp, Int.neg_neg]
      · omega
    · rename_i z
      have s0 : 1 ≤ s := by rcases gd with g | g <;> omega
      rw [Int.mul_zero, Int.mul_zero, Int.sub_zero, Int.sub_zero]
      have p1 : 0 < Y * s := Int.mul_pos (by omega) (by omega)
      have p2 : 0 ≤ W * s := Int.mul_nonneg v1 (by omega)
      unfold sal sal0
      rw [if_neg (by omega), if_neg (by omega)]
      unfold beside
      have e1 : w * (Y * s) * (Y * s) - l * (W * s) * (Y * s) - s * (W * s) * (W * s) = s * s * (w * Y * Y - l * W * Y - s * W * W) := by grind
      rw [e1, sg_scale (Int.mul_pos (by omega) (by omega))]
end RL

/-! Defs that are called where no repr is under way: repr of lists and tuples within them; == by an own __eq__. -/
namespace RL
open PySem L2 PySem.Spec PyProof.Rows
structure FnG (P : Program) (w : World) (K : PySem.W.Frag) (mg : Str → Option Value) (base : Heap) (k : Nat) (f : Addr) (fd : FuncData) (ps : List Str) (sp : Sp) : Prop where
  len : ∀ vs H Q E, sp vs H Q E → vs.length = ps.length
  run : ∀ (A : Around) (outer : List Env) (s : Shared) (H : Hp) (args : Args) (us : List Value) (vs : List V) (Q : VK) (E : XK), A.guards = some [] → Room k A → Env0 P w K mg base A outer s H → BindsTo s fd args (ps.zip us) → Vals vs us → sp vs H Q E →
    codeAny (model P w) A (.call (.ref f) args) (CR CX0 outer P w H s Q E) s
section
variable {P : Program} {w : World} {K : PySem.W.Frag} {mg : Str → Option Value} {base : Heap}
theorem okG {x qual : Str} {st : Stmt} {f : Addr} {fd : FuncData} {N ps : List Str} {k : Nat} {sp : Sp} (F : Fun K x qual st f fd) (S : FnScope N ps (defScope st)) (len : ∀ vs H Q E, sp vs H Q E → vs.length = ps.length)
    (bd : ∀ (cdv : Value) (A : Around) (outer : List Env) (s : Shared) (H : Hp) (vs : List V) (Q : VK) (E : XK), A.guards = some [] → Room k (A.deeper (envOfC qual (defScope st) s.heap.objs.size f cdv)) → sp vs H Q E →
      ∃ t, PSs (cxOf CX0 P w K mg base N qual (defScope st) f cdv A outer s H E).nox (defBody st) t ∧ t { nx := fun _ H' => Q .non H', rt := Q } (start N vs) H) : FnG P w K mg base (k + 1) f fd ps sp := by
  obtain ⟨oc, od, kV, doc, pm, an, cdv, ct, osl, rfl, lk, hcd⟩ := F.ex
  refine ⟨len, fun A outer s H args us vs Q E hg hr e0 hb r hsp => ?_⟩
  have KX : K.In s.heap := e0.mod.kin.keeps fun b o e => (e0.bs b o e).1
  have lim := e0.mod.nolimit.keeps fun b o e => (e0.bs b o e).1
  refine codeAny_call_function hr.depth (KX _ _ lk) rfl S.co S.gen rfl (PySem.W.codeRec_of KX hcd) (hb _ _ _ _ (wpAny_newFunctionEnv_cells S.kind (fun ⟨n, v⟩ hy => ?_) fun env he s1 x => ?_))
  · exact (S.par n (List.of_mem_zip hy).1).imp id fun q => ⟨q, PySem.W.cellsFrom_some _ _ _ (.inl q)⟩
  · subst he
    obtain ⟨t, ht, hq⟩ := bd cdv A outer s H vs Q E hg (hr.deeper _) hsp
    have I : Inv (cxOf CX0 P w K mg base N qual (defScope st) f cdv A outer s H E) [] (start N vs) H s1 := inv_start S hr.hd e0 (len _ _ _ _ hsp) r x
    refine ⟨lim.keeps x.toInCall.keep, codeAny_func (wpAny_mono (ht.nox.run [] s1 _ H _ I hq) (fun fl s' hs => ?_) fun _ _ z => z)⟩
    cases fl with
    | ret u =>
      obtain ⟨v, σ', H', J, rv, q⟩ := hs
      exact ⟨v, H', J.os, J.bare, J.base, J.hok, rv, q⟩
    | next =>
      obtain ⟨σ', H', J, q⟩ := hs
      exact ⟨V.non, H', J.os, J.bare, J.base, J.hok, rfl, q⟩
    | brk => exact hs.elim fun _ z => z.elim fun _ y => False.elim y.2
    | cont => exact hs.elim fun _ z => z.elim fun _ y => False.elim y.2
end
structure DfG (P : Program) (w : World) (K : PySem.W.Frag) (mg : Str → Option Value) (base : Heap) (k : Nat) (x : Str) (ps : List Str) (sp : Sp) : Prop where
  ex : ∃ (f : Addr) (fd : FuncData), FnG P w K mg base k f fd ps sp ∧ mg x = some (.ref f) ∧ PySem.W.keepIn K (.ref f) = true ∧ Binds K fd ps []
section
variable {X : Cx} {k : Nat} {ps : List Str} {sp : Sp} {x : Str} {p pos : Pos} {e : Expr} {es : List Expr} {t : TA}
theorem pe_dfG (D : DfG X.prog X.w X.K X.mg X.base k x ps sp) (hG : X.A.guards = some []) (hr : Room k X.A) (hg : Gl X x)
    (ha : PA X (e :: es) t) (hdb : (x == ("__debug__" : Str)) = false := by decide) (he : starEach (e :: es) X.env = (false, eval e X.env) :: starEach es X.env := by rfl) (hpl : (backTo pos (starEach es X.env)).any (·.1) = false := by rfl) :
    PE X (.Call (.Name x p) (e :: es) [] pos) (tCall sp [] E0 t) := by
  obtain ⟨f, fd, F, hm, hk, hb⟩ := D.ex
  refine ⟨fun pins s σ H Q I h => wpAny_Call_Name_kw (ld_glob I hg hm (PySem.W.callWith_K (h₀ := X.base) I.ok.mod.kin hk (thn (ha.run pos pins s σ H _ I h) fun us s1 ⟨vs, H1, I1, r, q⟩ => ⟨I1.kIn, ?_⟩) he hpl) hdb)⟩
  have q0 : sp vs H1 Q E0 := by
    have q1 : sp (vs ++ []) H1 Q E0 := q
    rw [List.append_nil] at q1
    exact q1
  have hl : (us ++ []).length = ps.length := by
    rw [List.append_nil, ← r.length]
    exact F.len _ _ _ _ q0
  have hbb := hb s1 us I1.kIn hl
  rw [List.append_nil] at hbb
  refine wpAny_call (codeAny_mono (F.run X.A X.stack s1 H1 ⟨us, []⟩ us vs Q E0 hG hr I1.env0 hbb r q0) fun z s' hq => ?_)
  cases z with
  | error e => exact hq.elim
  | ok fl =>
    cases fl with
    | ret u => exact I1.after hq
    | next => exact hq.elim
    | brk => exact hq.elim
    | cont => exact hq.elim
/-! ### repr of a list or tuple of plain things -/
def rRepr (K : PySem.W.Frag) : List V → Hp → VK → Prop := fun vs H Q => ∃ (a : Addr) (d : PyData), vs = [.ref a] ∧ Dp K H (.ref a) d ∧ d.showable = true ∧ d.hasDict = false ∧ d.depth ≤ 40 ∧ d.shown.length ≤ sizeLine ∧ Q (.str d.shown) H
theorem cr_repr (hG : X.A.guards = some []) (hu : X.A.units + 64 < cLine) : CallR X (.builtin "repr") (rRepr X.K) := by
  intro pins s σ H vs us Q I r h
  obtain ⟨a, d, rfl, hd, h1, h2, h3, h4, q⟩ := h
  obtain ⟨as, rd⟩ := Dp.reads I d _ (.ref a) hd rfl
  rw [Vals.ref1 r]
  refine repr_of_reads' (h₀ := s.heap) rd h1 (fun z => by rw [h2] at z; cases z) hG (by omega) (fun _ _ z => z) (fun h' u tk hk => ?_) h4
  exact ⟨.str d.shown, H, I.kept hk, ⟨_, rfl⟩, q⟩
/-! ### == by an own __eq__ -/
def rEqOwn (K : PySem.W.Frag) (C : Addr) (sp : Sp) : R2 := fun x y H Q => ∃ a dx fs ty, x = .ref a ∧ H a = some (.ins C dx fs) ∧ TyX K H y ty ∧ PySem.W.notFirst K C ty = true ∧ sp [x, y] H Q E0
theorem op_eqOwn {C g : Addr} {fd : FuncData} (hs : PySem.W.findIn X.K (.ref C) "__eq__" = some (some (.ref g))) (hf : PySem.W.isFn X.K (.ref g) = true) (F : FnOk X.prog X.w X.K X.mg X.base CX0 k g fd ps sp) (hb : Binds X.K fd ps []) (hr : Room k X.A) :
    OpR X (compareOp .Eq) (rEqOwn X.K C sp) := by
  intro pins s σ H x y v u Q I rx ry h
  obtain ⟨a, dx, fs, ty, rfl, ha, hy, hn, q⟩ := h
  cases (show v = Value.ref a from rx)
  obtain ⟨mA, O, _⟩ := ins_get I.hok ha
  obtain ⟨od, J, _⟩ := O.look
  obtain ⟨PH, Z, ph, _⟩ := kit_of I ry hy
  obtain ⟨m, hF⟩ := I.fr
  show wpAny _ _ (richCompare .Eq (.ref a) u) _ _ _
  refine PySem.W.cmp_K (op := .Eq) hr.units0 hF I.ok.mod.kin J (Z.ty _ _ I.kIn ph) hn hs hf ?_
  have q0 : sp ([.ref a, y] ++ []) H Q E0 := q
  refine wpAny_mono (run_fn (us := [.ref a, u]) (vs := [.ref a, y]) F hr hb .nil pass0 I (.cons rfl (.cons ry .nil)) q0) (fun w s' z => ?_) fun _ _ z => z
  obtain ⟨z', H', I', rz, qz⟩ := z
  exact SlX.cmpback rz ⟨z', H', I', rz, qz⟩
end
end RL

/-! The end of a law whose own def is promised where no repr is under way. -/
namespace RL
open PySem L2 PySem.Spec PyProof.Rows
/-- the call, once the abstract heap is chosen -/
theorem law_runG {P : Program} {w : World} {K : PySem.W.Frag} {mg mb : Str → Option Value} {k : Nat} {fa a : Addr} {fd : FuncData} {x : Str} {sp : Sp} {s1 : Shared} {vs : List Value} {H : Hp}
    (KX : K.In s1.heap) (hns : s1.heap.Ns mainGlobals mg) (hb : s1.heap.Ns builtinsNs mb) (hbb : ∀ x : Str, x ≠ "__name__" → mb x = bootBuiltins x) (hlim : s1.heap.NoLimit) (hgen : s1.gens = #[])
    (ha : s1.heap.get? a = some { cls := .type "list", data := .seq vs.toArray }) (hr : Room k callerA)
    (F : ∀ base : Heap, K.In base → base.Ns mainGlobals mg → FnG P w K mg base k fa fd [x] sp) (hbind : ∀ (s : Shared) (u : Value), BindsTo s fd ⟨[u], []⟩ [(x, u)])
    (hO : Only H) (hsp : sp [.ref a] H (fun v _ => v = .bl true) fun _ _ _ => False) (hok : HOk P w H s1.heap) (hA : ∀ b u, H b = some u → b = a ∧ K.lookup a = none) :
    codeAny (model P w) callerA (.call (.ref fa) ⟨[.ref a], []⟩) (fun r s' => r = .ok (.ret (.bool true)) ∧ OldK s1.heap s'.heap ∧ s'.os = s1.os ∧ AllBare s'.gens) s1 := by
  have free : ∀ {b : Addr} {o : Obj}, s1.heap.get? b = some o → (b = a → o.data ≠ .seq vs.toArray) → H b = none := fun {b o} e n => by
    cases q : H b with
    | none => rfl
    | some u =>
      obtain ⟨rfl, _⟩ := hA b u q
      rw [ha] at e
      cases e
      exact absurd rfl (n rfl)
  have ns1 : ∀ {b : Addr} {m : Str → Option Value}, s1.heap.Ns b m → (hidT s1.heap H).Ns b m := fun {b m} ⟨o, es, ep, e, d, r⟩ => ⟨o, es, ep, hidT_get e (free e fun _ z => by rw [d] at z; cases z), d, r⟩
  have kin : K.In (hidT s1.heap H) := fun b o e => hidT_get (KX b o e) (by
    cases q : H b with
    | none => rfl
    | some u =>
      obtain ⟨rfl, z⟩ := hA b u q
      rw [z] at e
      cases e)
  obtain ⟨mc, c1, c2⟩ := hlim
  have e0 : Env0 P w K mg (hidT s1.heap H) callerA [] s1 H :=
    { frames := rfl, mod := ⟨kin, ns1 hns, ⟨mb, ns1 hb, hbb⟩, ⟨mc, ns1 c1, c2⟩⟩, bs := fun b o e => of_hidT e, bsz := Nat.le_of_eq (hidT_size _ _), funs := trivial, frf := fun b z => absurd (show b ∈ ([] : List Addr) from z) (by simp), hok := hok, bare := .of_eq hgen }
  refine codeAny_mono ((F _ kin (ns1 hns)).run callerA [] s1 H ⟨[.ref a], []⟩ [.ref a] [.ref a] _ _ rfl hr e0 (hbind s1 (.ref a)) (.cons rfl .nil) hsp) fun r s' h => ?_
  match r, h with
  | .ok (.ret u), ⟨v, H', os, bare, un, hok', r', q⟩ =>
    cases (show v = V.bl true from q)
    cases (show u = Value.bool true from r')
    refine ⟨rfl, OldK.of_keep fun b o e => ?_, os, bare⟩
    cases q2 : H b with
    | none => exact un.keep b o e q2 (fun z => absurd (show b ∈ ([] : List Addr) from z) (by simp)) (by simp)
    | some u =>
      rcases hO b with z | ⟨ob, xs, z⟩
      · rw [q2] at z
        cases z
      · obtain ⟨e1, _⟩ := hok b _ z
        obtain ⟨e2, _⟩ := hok' b _ (un.frzs b ob _ z)
        rw [e] at e1
        cases e1
        exact e2
theorem walk_ofG {l : PySem.W.OpenLaw} {n k : Nat} {q : Program} {loose : List Str} {XP : (Str → Option Value) → Heap → Prop} {YP : World → Heap → Prop} {d : DefRec} {K : Params → PySem.W.Frag} {sp : World → Sp} {x : Str}
    (hn : l.most = some n) (hn2 : n ≤ sizeLine) (hdf : d.params.defaults = []) (hr : Room k callerA) (hY : ∀ (w : World) (h : Heap), YP w h → (K w.params).In h)
    (F : ∀ (w : World) (mg : Str → Option Value) (fa : Addr) (h : Heap), (K w.params).In h → h.Ns mainGlobals mg → mg d.name = some (.ref fa) →
      ∃ fd : FuncData, (∀ (s : Shared) (u : Value), BindsTo s fd ⟨[u], []⟩ [(x, u)]) ∧ ∀ base : Heap, (K w.params).In base → base.Ns mainGlobals mg → FnG l.prog w (K w.params) mg base k fa fd [x] (sp w))
    (hsp : ∀ (w : World) (H : Hp) (a : Addr) (ns : List Int), ns.length ≤ n → Only H → SqL (K w.params) H a (ns.map V.int) → sp w [.ref a] H (fun v _ => v = .bl true) fun _ _ _ => False) :
    PySem.W.WalkO q loose XP YP l.row.toRowW d [] (fun f vs => PySem.call f vs) := by
  refine Att.attach_call hn hdf fun w s0 s1 mg mb fa o pm cd doc a vs ns G Y ho hd hcd hmg hobj hints hlen hgen => ?_
  have KX := hY w _ Y
  obtain ⟨fd, hb, hF⟩ := F w mg fa _ KX G.T.g hmg
  have rv := vals_ints hints
  have hl : ns.length ≤ sizeLine := Nat.le_trans hlen hn2
  have lenV := hints.length
  cases hk : (K w.params).lookup a with
  | some ob =>
    have e := KX a ob hk
    rw [hobj] at e
    cases e
    refine law_runG (H := fun _ => none) KX G.T.g G.T.b G.T.builtins G.T.nolimit hgen hobj hr hF hb (fun _ => .inl rfl) (hsp w _ a ns hlen (fun _ => .inl rfl) (.inr ⟨_, vs.toArray, _, hk, rfl, rfl, rfl, by rw [List.size_toArray, lenV]; exact hl, by simpa using rv⟩)) (fun b u z => ?_) fun b u z => ?_
    · cases (show (none : Option HO) = some u from z)
    · cases (show (none : Option HO) = some u from z)
  | none =>
    have only : Only (fun b => if b = a then some (HO.frz { cls := .type "list", data := .seq vs.toArray } (.lst (ns.map V.int))) else none) := fun b => by
      by_cases z : b = a
      · exact .inr ⟨_, _, if_pos z⟩
      · exact .inl (if_neg z)
    have at_ : ∀ {b : Addr} {u : HO}, (if b = a then some (HO.frz { cls := .type "list", data := .seq vs.toArray } (.lst (ns.map V.int))) else none) = some u → b = a ∧ u = HO.frz { cls := .type "list", data := .seq vs.toArray } (.lst (ns.map V.int)) := fun {b u} z => by
      by_cases y : b = a
      · rw [if_pos y] at z
        exact ⟨y, (Option.some.inj z).symm⟩
      · rw [if_neg y] at z
        cases z
    refine law_runG (H := fun b => if b = a then some (HO.frz { cls := .type "list", data := .seq vs.toArray } (.lst (ns.map V.int))) else none) KX G.T.g G.T.b G.T.builtins G.T.nolimit hgen hobj hr hF hb only (hsp w _ a ns hlen only (.inl (.inr ⟨_, if_pos rfl⟩))) (fun b u z => ?_) fun b u z => ⟨(at_ z).1, hk⟩
    obtain ⟨rfl, rfl⟩ := at_ z
    exact ⟨hobj, by rw [List.length_map]; exact hl, vs, _, rv, hobj⟩
end RL

namespace RL
open PySem L2
def top (i : Nat) : Stmt := PySem.Challenge.pw_rungladders_k05_whole_order_of_exact_num.main.body.getD i (.Pass ⟨0, 0, 0, 0⟩)
/-! ### a def as its callers see it -/
structure Df (P : Program) (w : World) (K : PySem.W.Frag) (mg : Str → Option Value) (base : Heap) (k : Nat) (x : Str) (ps : List Str) (sp : Sp) : Prop where
  ex : ∃ (f : Addr) (fd : FuncData), FnOk P w K mg base CX0 k f fd ps sp ∧ mg x = some (.ref f) ∧ PySem.W.keepIn K (.ref f) = true ∧ Binds K fd ps []
section
variable {X : Cx} {k : Nat} {ps : List Str} {sp : Sp} {x : Str} {p pos : Pos} {e : Expr} {es : List Expr} {t : TA}
theorem pe_df (D : Df X.prog X.w X.K X.mg X.base k x ps sp) (hr : Room k X.A) (hg : Gl X x)
    (ha : PA X (e :: es) t) (hdb : (x == ("__debug__" : Str)) = false := by decide) (he : starEach (e :: es) X.env = (false, eval e X.env) :: starEach es X.env := by rfl) (hpl : (backTo pos (starEach es X.env)).any (·.1) = false := by rfl) :
    PE X (.Call (.Name x p) (e :: es) [] pos) (tCall sp [] E0 t) := by
  obtain ⟨f, fd, G, hm, hk, hb⟩ := D.ex
  exact pe_call G hr hg hm hk hb .nil pass0 ha hdb he hpl
end
structure Txt (K : PySem.W.Frag) (mg : Str → Option Value) : Prop where
  len : mg "len" = none
  abs : mg "abs" = none
  int_ : mg "int" = none
  bool_ : mg "bool" = none
  tuple_ : mg "tuple" = none
  isinstance : mg "isinstance" = none
  divmod : mg "divmod" = none
  max : mg "max" = none
  min : mg "min" = none
  range : mg "range" = none
  all : mg "all" = none
  repr : mg "repr" = none
/-! ### heaps -/
def But (c : Addr) (H H' : Hp) : Prop := ∀ b o, b ≠ c → H b = some o → H' b = some o
theorem But.refl (c : Addr) (H : Hp) : But c H H := fun _ _ _ h => h
theorem But.trans {c : Addr} {H H1 H2 : Hp} (a : But c H H1) (b : But c H1 H2) : But c H H2 := fun x o n h => b x o n (a x o n h)
theorem But.of {c : Addr} {H H' : Hp} (h : Same H H') : But c H H' := fun x o _ e => h x o e
theorem same_upd {H : Hp} {p : Addr} {o : HO} (h : H p = none) : Same H (upd H p o) := fun b x e => by
  rw [upd_ne (ne_of_none e h)]
  exact e
theorem But.upd {c : Addr} {H : Hp} {o : HO} : But c H (upd H c o) := fun b x n e => by
  rw [upd_ne n]
  exact e
theorem But.free {c : Addr} {H H' : Hp} (e : But c H H') {l : Addr} (n : l ≠ c) (h : H' l = none) : H l = none := by
  cases q : H l with
  | none => rfl
  | some o =>
    rw [e l o n q] at h
    cases h
def CupAt (c : Addr) (H : Hp) : Prop := ∃ x y : Int, H c = some (.lst [.int x, .int y]) ∧ 0 ≤ x ∧ x < 2147483629 ∧ 0 ≤ y
theorem CupAt.same {c : Addr} {H H' : Hp} (h : CupAt c H) (s : Same H H') : CupAt c H' := by
  obtain ⟨x, y, a, b⟩ := h
  exact ⟨x, y, s _ _ a, b⟩
theorem CupAt.ne {c b : Addr} {H : Hp} (h : CupAt c H) (n : H b = none) : c ≠ b := by
  obtain ⟨x, y, a, _⟩ := h
  exact ne_of_none a n
/-! ### promises -/
def spCup (K : PySem.W.Frag) : Sp := fun vs H Q _ => ∃ (a : Addr) (ns : List Int) (i : Nat), vs = [.ref a, .int (i : Int)] ∧ SqL K H a (ns.map V.int) ∧ i ≤ 100 ∧ ns.length ≤ 63 ∧
  ∀ H' c, Same H H' → H c = none → CupAt c H' → Q (.ref c) H'
def spSip : Sp := fun vs H Q _ => ∃ (c : Addr) (m : Int), vs = [.ref c, .int m] ∧ CupAt c H ∧ 0 < m ∧ Sm 200 m ∧
  ∀ H' r, But c H H' → CupAt c H' → 0 ≤ r → r < m → Q (.int r) H'
def spPick : Sp := fun vs H Q _ => ∃ (c l : Addr) (xs : List V), vs = [.ref c, .ref l] ∧ CupAt c H ∧ c ≠ l ∧ H l = some (.lst xs) ∧ 0 < xs.length ∧ xs.length ≤ 100 ∧
  ∀ H' v, But c H H' → CupAt c H' → v ∈ xs → Q v H'
def spPair : Sp := fun vs H Q _ => ∃ (t b : Int), vs = [.int t, .int b] ∧ 0 ≤ t ∧ 0 < b ∧ Sm 4000 t ∧ Sm 4000 b ∧
  ∀ H' p, Same H H' → H p = none → H' p = some (.tup [.int (t / gc t b), .int (b / gc t b)]) → Q (.ref p) H'
def spTen : Sp := fun vs H Q _ => ∃ n : Nat, vs = [.int (n : Int)] ∧ n ≤ 100 ∧ Q (.int (10 ^ n)) H
def spRoot : Sp := fun vs H Q _ => ∃ n : Int, vs = [.int n] ∧ 0 ≤ n ∧ Sm 4000 n ∧ ∀ H', Same H H' → Q (.int (rt n)) H'
section
variable {P : Program} {w : World} {K : PySem.W.Frag} {mg : Str → Option Value} {base : Heap}
abbrev s_law_sip : Stmt := top 24
theorem sc_law_sip : FnScope ["_law_cup_here", "_law_many", "_law_part"] ["_law_cup_here", "_law_many"] (defScope s_law_sip) := ⟨rfl, rfl, rfl, by decide +kernel, rfl, by decide +kernel, by decide +kernel⟩

theorem ok_sip {f : Addr} {fd : FuncData} (F : Fun K "_law_sip" "_law_sip" s_law_sip f fd) (T : Txt K mg) : FnOk P w K mg base CX0 1 f fd ["_law_cup_here", "_law_many"] spSip := by
  refine F.ok sc_law_sip (fun vs H Q E h => ?_) (fun cdv A outer s H vs Q E hr h => ?_)
  · obtain ⟨c, m, rfl, _⟩ := h
    rfl
  · obtain ⟨c, m, rfl, ⟨x, y, hc, x0, x1, y0⟩, m0, ms, k⟩ := h
    refine ⟨_, (pss_cons (ps_asg (pe_op op_mod (pe_callTy call_int1 (by rfl) T.int_ (by decide +kernel) (pa_cons (pe_op op_add (pe_op op_mul (pe_ix ix_list (pv 0) pe_int (fun _ _ => rfl)) pe_int) pe_int) pa_nil)) pe_int) (pg_sub (pv 0) pe_int set_list))
      (pss_cons (ps_if (pt_cmpR op_gt (pe_ix ix_list (pv 0) pe_int (fun _ _ => rfl)) pe_int (nomark _)) (pss_cons (ps_asg (pe_callB call_divmodW (by rfl) T.divmod (by decide +kernel) (pa_cons (pe_ix ix_list (pv 0) pe_int (fun _ _ => rfl)) (pa_cons (pv 1) pa_nil))) (pg_tup rfl (pgs_cons (pg_sub (pv 0) pe_int set_list) (pgs_cons (pg_name (i := 2) sc_law_sip.nd rfl (.inl rfl)) pgs_nil))))
      (pss_one (ps_ret (pv 2)))) pss_nil)
      (pss_one (ps_ret (pe_op op_mod (pe_callTy call_int1 (by rfl) T.int_ (by decide +kernel) (pa_cons (pe_op op_fdivW (pe_ix ix_list (pv 0) pe_int (fun _ _ => rfl)) pe_int) pa_nil)) (pv 1)))))), ?_⟩
    -- cup[0] = ..
    refine ⟨_, rfl, c, _, _, _, rfl, rfl, SqL.of hc, atI_nat (j := 0) rfl, _, _, rfl, rfl, .inr ⟨by decide, by decide⟩, _, _, rfl, rfl, .inl ⟨_, rfl, _, _, rfl, rfl, (by decide : (0 : Int) < 2147483629), _, rfl, c, _, _, _, rfl, rfl, hc, rfl, ?_⟩⟩
    have z0 : 0 ≤ (x * 48271 + 11) % 2147483629 := Int.emod_nonneg _ (by decide)
    have z1 : (x * 48271 + 11) % 2147483629 < 2147483629 := Int.emod_lt_of_pos _ (by decide)
    have hc1 : (upd H c (HO.lst ([V.int x, V.int y].set 0 (V.int ((x * 48271 + 11) % 2147483629))))) c = some (.lst [.int ((x * 48271 + 11) % 2147483629), .int y]) := upd_same
    have b1 : But c H (upd H c (HO.lst ([V.int x, V.int y].set 0 (V.int ((x * 48271 + 11) % 2147483629))))) := But.upd
    -- if cup[1] > 0
    refine ⟨_, rfl, c, _, _, _, rfl, rfl, SqL.of hc1, atI_nat (j := 1) rfl, _, _, rfl, rfl, _, rfl, ite2 (fun e => ?_) (fun e => ?_)⟩
    · have e0 : 0 < y := of_decide_eq_true e
      refine ⟨_, rfl, c, _, _, _, rfl, rfl, SqL.of hc1, atI_nat (j := 1) rfl, _, rfl, _, _, rfl, ⟨m0, PyProof.noPylong_of_log2 (PySem.Flt.log2_lt_of (by decide) (Nat.lt_of_lt_of_le ms (Nat.pow_le_pow_right (by decide) (by decide : 200 ≤ 9000))))⟩, fun p hp => ?_⟩
      have ncp : c ≠ p := ne_of_none hc1 hp
      have hc2 : (upd (upd H c (HO.lst ([V.int x, V.int y].set 0 (V.int ((x * 48271 + 11) % 2147483629))))) p (HO.tup [V.int (y / m), V.int (y % m)])) c = some (.lst [.int ((x * 48271 + 11) % 2147483629), .int y]) := by
        rw [upd_ne ncp]
        exact hc1
      refine ⟨p, _, rfl, SqT.of upd_same, rfl, _, _, rfl, _, rfl, c, _, _, _, rfl, rfl, hc2, rfl, _, _, rfl, rfl, _, rfl, ?_⟩
      refine k _ _ ?_ ⟨_, y / m, upd_same, z0, z1, Int.ediv_nonneg y0 (by omega)⟩ (Int.emod_nonneg _ (by omega)) (Int.emod_lt_of_pos _ m0)
      exact (b1.trans (But.of (same_upd hp))).trans But.upd
    · refine ⟨_, rfl, c, _, _, _, rfl, rfl, SqL.of hc1, atI_nat (j := 0) rfl, _, _, rfl, rfl, ⟨by decide, by decide⟩, .inl ⟨_, rfl, _, rfl, _, _, rfl, rfl, m0, ?_⟩⟩
      exact k _ _ b1 ⟨_, y, hc1, z0, z1, y0⟩ (Int.emod_nonneg _ (by omega)) (Int.emod_lt_of_pos _ m0)
abbrev s_law_pick : Stmt := top 25
theorem sc_law_pick : FnScope ["_law_cup_here", "_law_things"] ["_law_cup_here", "_law_things"] (defScope s_law_pick) := ⟨rfl, rfl, rfl, by decide +kernel, rfl, by decide +kernel, by decide +kernel⟩

theorem ok_pick {f : Addr} {fd : FuncData} (F : Fun K "_law_pick" "_law_pick" s_law_pick f fd) (T : Txt K mg) (D_law_sip : Df P w K mg base 1 "_law_sip" ["_law_cup_here", "_law_many"] spSip) : FnOk P w K mg base CX0 2 f fd ["_law_cup_here", "_law_things"] spPick := by
  refine F.ok sc_law_pick (fun vs H Q E h => ?_) (fun cdv A outer s H vs Q E hr h => ?_)
  · obtain ⟨c, l, xs, rfl, _⟩ := h
    rfl
  · obtain ⟨c, l, xs, rfl, hc, ncl, hl, l0, l1, k⟩ := h
    refine ⟨_, (pss_one (ps_ret (pe_ix ix_list (pv 1) (pe_df D_law_sip (hr.mono (by decide)) (by rfl) (pa_cons (pv 0) (pa_cons (pe_callB call_len_seq (by rfl) T.len (by decide +kernel) (pa_cons (pv 1) pa_nil)) pa_nil))) (fun _ _ => rfl)))), ?_⟩
    refine ⟨_, rfl, _, rfl, _, rfl, l, _, rfl, .inl (SqL.of hl), c, _, rfl, hc, (by omega), ?_, fun H' r b hc' r0 r1 => ?_⟩
    · unfold Sm
      have : (2 : Nat) ^ 7 ≤ 2 ^ 200 := Nat.pow_le_pow_right (by decide) (by decide)
      have : (2 : Nat) ^ 7 = 128 := by decide
      omega
    · obtain ⟨n, rfl⟩ := Int.eq_ofNat_of_zero_le r0
      have hn : n < xs.length := by omega
      refine ⟨l, xs, _, _, rfl, rfl, SqL.of (b _ _ ncl.symm hl), atI_nat (List.getElem?_eq_getElem hn), ?_⟩
      exact k _ _ b hc' (List.getElem_mem hn)
abbrev s_law_pair : Stmt := top 26
theorem sc_law_pair : FnScope ["_law_top", "_law_bottom", "_law_one", "_law_two"] ["_law_top", "_law_bottom"] (defScope s_law_pair) := ⟨rfl, rfl, rfl, by decide +kernel, rfl, by decide +kernel, by decide +kernel⟩

theorem ok_pair {f : Addr} {fd : FuncData} (F : Fun K "_law_pair" "_law_pair" s_law_pair f fd) (T : Txt K mg) : FnOk P w K mg base CX0 1 f fd ["_law_top", "_law_bottom"] spPair := by
  refine F.ok sc_law_pair (fun vs H Q E h => ?_) (fun cdv A outer s H vs Q E hr h => ?_)
  · obtain ⟨t, b, rfl, _⟩ := h
    rfl
  · obtain ⟨t, b, rfl, t0, b0, ts, bs, k⟩ := h
    refine ⟨_, (pss_cons (ps_par (by rfl) sc_law_pair.nd (i := 2) (j := 3) rfl rfl (by decide) rfl rfl (pa_cons (pv 0) (pa_cons (pv 1) pa_nil)) (by rfl))
      (pss_cons (ps_while PassesOwn.never (pt_cmpR op_gt (pv 3) pe_int (nomark _)) (pss_one (ps_par (by rfl) sc_law_pair.nd (i := 2) (j := 3) rfl rfl (by decide) rfl rfl (pa_cons (pv 3) (pa_cons (pe_op op_mod (pe_callTy call_int1 (by rfl) T.int_ (by decide +kernel) (pa_cons (pv 2) pa_nil)) (pv 3)) pa_nil)) (by rfl))))
      (pss_one (ps_ret (pe_tup (pa_cons (pe_op op_fdivW (pv 0) (pv 2)) (pa_cons (pe_op op_fdivW (pv 1) (pv 2)) pa_nil))))))), ?_⟩
    refine ⟨_, rfl, _, rfl, _, _, rfl, ?_⟩
    refine while_by (fun σ H' => H' = H ∧ ∃ x y : Int, σ = [some (.int t), some (.int b), some (.int x), some (.int y)] ∧ 0 ≤ x ∧ 0 ≤ y ∧ gc x y = gc t b) (fun σ _ => match σ with | [_, _, _, some (.int y)] => y.toNat | _ => 0) ⟨rfl, t, b, rfl, t0, by omega, rfl⟩ ?_ ?_
    · rintro σ H' ⟨rfl, x, y, rfl, x0, y0, eg⟩
      refine ⟨_, rfl, _, _, rfl, rfl, _, rfl, ite2 (fun e => ?_) (fun e => ?_)⟩
      · have e0 : 0 < y := of_decide_eq_true e
        refine ⟨_, rfl, _, rfl, .inl ⟨_, rfl, _, rfl, _, _, rfl, rfl, e0, _, _, rfl, ?_⟩⟩
        have q1 := Int.emod_nonneg x (show y ≠ 0 by omega)
        have q2 := Int.emod_lt_of_pos x e0
        refine ⟨⟨rfl, y, x % y, rfl, y0, q1, ?_⟩, ?_⟩
        · rw [gc_step x0 e0, eg]
        · show (x % y).toNat < y.toNat
          omega
      · have e0 : ¬ 0 < y := fun z => e (decide_eq_true z)
        have y1 : y = 0 := by omega
        subst y1
        rw [gc_zero x0] at eg
        have g0 : 0 < gc t b := gc_pos (.inr (by omega))
        have gb : gc t b ≤ b := Int.le_of_dvd b0 (gc_dvd2 _ _)
        have gs : Sm 4000 x := by
          rw [eg]
          exact bs.of (by omega) gb
        subst eg
        refine ⟨_, rfl, _, rfl, _, _, rfl, rfl, wide_div g0 gs (by decide) (by decide), _, rfl, _, rfl, _, _, rfl, rfl, wide_div g0 gs (by decide) (by decide), (by show 2 ≤ sizeLine; decide), fun p hp => ?_⟩
        exact k _ _ (same_upd hp) hp upd_same
    · rintro σ H' Q1 Q2 hq h
      obtain ⟨v, e1, i, j, e2, e3, z⟩ := h
      exact ⟨v, e1, i, j, e2, e3, z.imp fun k z => ⟨z.1, hq _ _ z.2⟩⟩
end
end RL

namespace RL
open PySem L2
section
variable {P : Program} {w : World} {K : PySem.W.Frag} {mg : Str → Option Value} {base : Heap}
theorem cut2 (xs : List V) : cutV xs none (some 2) = xs.take 2 := by
  unfold cutV
  rw [HT.sIx_none, show HT.sIx xs.length xs.length (some 2) = min 2 xs.length from HT.sIx_nat xs.length xs.length 2]
  rw [Nat.sub_zero, List.drop_zero]
  rcases Nat.le_total 2 xs.length with h | h
  · rw [Nat.min_eq_left h]
  · rw [Nat.min_eq_right h, List.take_length, List.take_of_length_le h]
abbrev s_law_cup : Stmt := top 23
theorem sc_law_cup : FnScope ["_law_script", "_law_spot", "_law_cell", "_law_one"] ["_law_script", "_law_spot"] (defScope s_law_cup) := ⟨rfl, rfl, rfl, by decide +kernel, rfl, by decide +kernel, by decide +kernel⟩

theorem ok_cup {f : Addr} {fd : FuncData} (F : Fun K "_law_cup" "_law_cup" s_law_cup f fd) (T : Txt K mg) : FnOk P w K mg base CX0 1 f fd ["_law_script", "_law_spot"] (spCup K) := by
  refine F.ok sc_law_cup (fun vs H Q E h => ?_) (fun cdv A outer s H vs Q E hr h => ?_)
  · obtain ⟨a, ns, i, rfl, _⟩ := h
    rfl
  · obtain ⟨a, ns, i, rfl, hS, hi, hn, k⟩ := h
    refine ⟨_, (pss_cons (ps_set (i := 2) sc_law_cup.nd rfl (.inl rfl) (pe_ifExp (pt_cmpR op_lt (pv 1) (pe_callB call_len_seq (by rfl) T.len (by decide +kernel) (pa_cons (pv 0) pa_nil)) (nomark _)) (pe_ix ix_list (pv 0) (pv 1) (fun _ _ => rfl)) (pe_op op_add (pe_op op_mul pe_int (pv 1)) pe_int)))
      (pss_cons (ps_for PassesOwn.never rfl (pi_list (pe_ifExp (pt_cmpR op_ge (pv 1) (pe_callB call_len_seq (by rfl) T.len (by decide +kernel) (pa_cons (pv 0) pa_nil)) (nomark _)) (pe_slice sl_list (pv 0) po_none (po_some pe_int)) (pe_lst pa_nil))) (pg_name (i := 3) sc_law_cup.nd rfl (.inl rfl)) (pss_one (ps_set (i := 2) sc_law_cup.nd rfl (.inl rfl) (pe_op op_mod (pe_callTy call_int1 (by rfl) T.int_ (by decide +kernel) (pa_cons (pe_op op_add (pe_op op_mul (pv 2) pe_int) (pv 3)) pa_nil)) pe_int))))
      (pss_one (ps_ret (pe_lst (pa_cons (pe_op op_mod (pe_callTy call_int1 (by rfl) T.int_ (by decide +kernel) (pa_cons (pe_op op_add (pe_op op_add (pe_op op_mul (pv 2) pe_int) (pe_op op_mul pe_int (pv 1))) pe_int) pa_nil)) pe_int) (pa_cons (pe_ifExp (PW.pt (pw_or (pt_cmpR op_lt (pv 2) pe_int (nomark _)) (pw_or1 (pt_cmpR op_ge (pv 2) (pe_op op_pow pe_int pe_int) (nomark _))))) (pe_callB call_abs (by rfl) T.abs (by decide +kernel) (pa_cons (pv 2) pa_nil)) pe_int) pa_nil))))))), ?_⟩
    have hlen : (ns.map V.int).length = ns.length := List.length_map ..
    have isI : ∀ (xs : List Int) (j : Nat) (y : V), (xs.map V.int)[j]? = some y → ∃ u, y = V.int u := fun xs j y hj => by
      rw [List.getElem?_map] at hj
      cases q : xs[j]? with
      | none =>
        rw [q] at hj
        cases hj
      | some u =>
        rw [q] at hj
        exact ⟨u, (Option.some.inj hj).symm⟩
    refine ⟨_, rfl, _, rfl, a, _, rfl, .inl hS, _, _, rfl, rfl, _, rfl, ite2 (fun e => ?_) (fun e => ?_)⟩
    · have e0 : (i : Int) < (ns.map V.int).length := of_decide_eq_true e
      have hin : i < ns.length := by omega
      refine ⟨_, rfl, _, rfl, a, _, _, _, rfl, rfl, hS, atI_nat (v := V.int ns[i]) (by rw [List.getElem?_map, List.getElem?_eq_getElem hin]; rfl), ?_⟩
      refine ⟨_, rfl, _, rfl, a, _, rfl, .inl hS, _, _, rfl, rfl, _, rfl, ite2 (fun e2 => absurd (of_decide_eq_true e2) (by omega)) (fun e2 => ?_)⟩
      refine ⟨Nat.zero_le _, fun l hl0 => ?_⟩
      have sm : Same H (upd H l (.lst [])) := same_upd hl0
      have hl : SqL K (upd H l (.lst [])) l (([] : List Int).map V.int) := SqL.of upd_same
      refine ⟨l, rfl, ⟨_, hl⟩, for_list (K := K) (a := l) (xs := ([] : List Int).map V.int) (fun j σ H' => ∃ (c2 : Int) (v3 : Option V), σ = [some (.ref a), some (.int i), some (.int c2), v3] ∧ H' = upd H l (.lst [])) ⟨ns[i], none, rfl, rfl⟩ (fun _ _ _ _ h => by obtain ⟨_, _, _, rfl⟩ := h; exact hl) ?_ ?_⟩
      · rintro j y σ H' hj ⟨c2, v3, rfl, rfl⟩
        obtain ⟨u, rfl⟩ := isI _ _ _ hj
        refine ⟨_, rfl, _, _, rfl, rfl, .inr ⟨by decide, by decide⟩, _, rfl, _, _, rfl, rfl, .inl ⟨_, rfl, _, _, rfl, rfl, (by decide : (0 : Int) < 1000000007), ?_⟩⟩
        exact ⟨_, _, rfl, rfl⟩
      · rintro σ H' ⟨c2, v3, rfl, rfl⟩
        refine ⟨_, rfl, _, _, rfl, rfl, .inr ⟨by decide, by decide⟩, _, rfl, _, _, rfl, rfl, .inl ⟨by decide, by decide⟩, _, _, rfl, rfl, _, _, rfl, rfl, .inl ⟨_, rfl, _, _, rfl, rfl, (by decide : (0 : Int) < 2147483629), ?_⟩⟩
        have z0 : 0 ≤ (c2 * 4099 + 271 * (i : Int) + 17) % 2147483629 := Int.emod_nonneg _ (by decide)
        have z1 : (c2 * 4099 + 271 * (i : Int) + 17) % 2147483629 < 2147483629 := Int.emod_lt_of_pos _ (by decide)
        refine ⟨_, rfl, _, _, rfl, rfl, _, rfl, ite2 (fun e3 => ?_) (fun e3 => ?_)⟩
        · refine iteT ⟨_, rfl, _, rfl, (by show 2 ≤ sizeLine; decide), fun p hp => ?_⟩
          refine k _ p (sm.trans (same_upd hp)) (sm.free hp) ⟨_, _, upd_same, z0, z1, ?_⟩
          split <;> omega
        · refine ⟨_, rfl, _, _, rfl, rfl, ⟨by decide, by decide, by decide⟩, _, _, rfl, rfl, _, rfl, ite2 (fun e4 => ?_) (fun e4 => ?_)⟩
          · refine ⟨_, rfl, _, rfl, (by show 2 ≤ sizeLine; decide), fun p hp => ?_⟩
            refine k _ p (sm.trans (same_upd hp)) (sm.free hp) ⟨_, _, upd_same, z0, z1, ?_⟩
            split <;> omega
          · refine ⟨(by show 2 ≤ sizeLine; decide), fun p hp => ?_⟩
            exact k _ p (sm.trans (same_upd hp)) (sm.free hp) ⟨_, _, upd_same, z0, z1, by decide⟩
    · have e0 : ¬ (i : Int) < (ns.map V.int).length := fun z => e (decide_eq_true z)
      refine ⟨_, rfl, _, _, rfl, rfl, .inl ⟨by decide, by decide⟩, _, _, rfl, rfl, ?_⟩
      refine ⟨_, rfl, _, rfl, a, _, rfl, .inl hS, _, _, rfl, rfl, _, rfl, ite2 (fun e2 => ?_) (fun e2 => absurd (decide_eq_true (show ((ns.map V.int).length : Int) ≤ (i : Int) by omega)) e2)⟩
      refine ⟨_, rfl, 2, rfl, a, _, rfl, hS, fun l hl0 => ?_⟩
      have sm := same_upd (o := .lst (cutV (ns.map V.int) none (some 2))) hl0
      have hl : SqL K (upd H l (.lst (cutV (ns.map V.int) none (some 2)))) l ((ns.take 2).map V.int) := by
        refine SqL.of ?_
        rw [upd_same, cut2, List.map_take]
      refine ⟨l, rfl, ⟨_, hl⟩, for_list (K := K) (a := l) (xs := (ns.take 2).map V.int) (fun j σ H' => ∃ (c2 : Int) (v3 : Option V), σ = [some (.ref a), some (.int i), some (.int c2), v3] ∧ H' = upd H l (.lst (cutV (ns.map V.int) none (some 2)))) ⟨_, none, rfl, rfl⟩ (fun _ _ _ _ h => by obtain ⟨_, _, _, rfl⟩ := h; exact hl) ?_ ?_⟩
      · rintro j y σ H' hj ⟨c2, v3, rfl, rfl⟩
        obtain ⟨u, rfl⟩ := isI _ _ _ hj
        refine ⟨_, rfl, _, _, rfl, rfl, .inr ⟨by decide, by decide⟩, _, rfl, _, _, rfl, rfl, .inl ⟨_, rfl, _, _, rfl, rfl, (by decide : (0 : Int) < 1000000007), ?_⟩⟩
        exact ⟨_, _, rfl, rfl⟩
      · rintro σ H' ⟨c2, v3, rfl, rfl⟩
        refine ⟨_, rfl, _, _, rfl, rfl, .inr ⟨by decide, by decide⟩, _, rfl, _, _, rfl, rfl, .inl ⟨by decide, by decide⟩, _, _, rfl, rfl, _, _, rfl, rfl, .inl ⟨_, rfl, _, _, rfl, rfl, (by decide : (0 : Int) < 2147483629), ?_⟩⟩
        have z0 : 0 ≤ (c2 * 4099 + 271 * (i : Int) + 17) % 2147483629 := Int.emod_nonneg _ (by decide)
        have z1 : (c2 * 4099 + 271 * (i : Int) + 17) % 2147483629 < 2147483629 := Int.emod_lt_of_pos _ (by decide)
        refine ⟨_, rfl, _, _, rfl, rfl, _, rfl, ite2 (fun e3 => ?_) (fun e3 => ?_)⟩
        · refine iteT ⟨_, rfl, _, rfl, (by show 2 ≤ sizeLine; decide), fun p hp => ?_⟩
          refine k _ p (sm.trans (same_upd hp)) (sm.free hp) ⟨_, _, upd_same, z0, z1, ?_⟩
          split <;> omega
        · refine ⟨_, rfl, _, _, rfl, rfl, ⟨by decide, by decide, by decide⟩, _, _, rfl, rfl, _, rfl, ite2 (fun e4 => ?_) (fun e4 => ?_)⟩
          · refine ⟨_, rfl, _, rfl, (by show 2 ≤ sizeLine; decide), fun p hp => ?_⟩
            refine k _ p (sm.trans (same_upd hp)) (sm.free hp) ⟨_, _, upd_same, z0, z1, ?_⟩
            split <;> omega
          · refine ⟨(by show 2 ≤ sizeLine; decide), fun p hp => ?_⟩
            exact k _ p (sm.trans (same_upd hp)) (sm.free hp) ⟨_, _, upd_same, z0, z1, by decide⟩
end
end RL

namespace RL
open PySem L2
section
variable {P : Program} {w : World} {K : PySem.W.Frag} {mg : Str → Option Value} {base : Heap}
theorem mx {a b : Nat} {i j : Int} (hi : Sm a i) (hj : Sm b j) (h : a + b ≤ 134217728 := by decide) : CMulX i j := mulx_ok hi hj h
theorem dvw {b : Nat} {i j : Int} (h : 0 < j) (hb : Sm b j) (h0 : 0 < b := by decide) (h9 : b ≤ 9000 := by decide) : CDivW i j := wide_div h hb h0 h9
abbrev s_law_ten : Stmt := top 27
theorem sc_law_ten : FnScope ["_law_figures_here", "_law_found", "_law_turn"] ["_law_figures_here"] (defScope s_law_ten) := ⟨rfl, rfl, rfl, by decide +kernel, rfl, by decide +kernel, by decide +kernel⟩

theorem ok_ten {f : Addr} {fd : FuncData} (F : Fun K "_law_ten" "_law_ten" s_law_ten f fd) (T : Txt K mg) : FnOk P w K mg base CX0 1 f fd ["_law_figures_here"] spTen := by
  refine F.ok sc_law_ten (fun vs H Q E h => ?_) (fun cdv A outer s H vs Q E hr h => ?_)
  · obtain ⟨n, rfl, _⟩ := h
    rfl
  · obtain ⟨n, rfl, hn, k⟩ := h
    refine ⟨_, (pss_cons (ps_set (i := 1) sc_law_ten.nd rfl (.inl rfl) pe_int)
      (pss_cons (ps_for PassesOwn.never rfl (pi_range1 rfl T.range (pa_cons (pv 0) pa_nil)) (pg_name (i := 2) sc_law_ten.nd rfl (.inl rfl)) (pss_one (ps_set (i := 1) sc_law_ten.nd rfl (.inl rfl) (pe_op op_mul pe_int (pv 1)))))
      (pss_one (ps_ret (pv 1))))), ?_⟩
    refine ⟨_, rfl, _, rfl, (by omega), (by omega), ?_⟩
    refine for_range (lo := 0) (n := ((n : Nat) : Int).toNat) (fun i σ H' => H' = H ∧ ∃ v, σ = [some (.int n), some (.int (10 ^ i)), v]) ⟨rfl, none, rfl⟩ ?_ ?_
    · rintro i σ H' hi ⟨rfl, v, rfl⟩
      refine ⟨_, rfl, _, _, rfl, rfl, .inl ⟨by decide, by decide⟩, ?_⟩
      have e : (10 : Int) * 10 ^ i = 10 ^ (i + 1) := by rw [Int.pow_succ, Int.mul_comm]
      exact ⟨rfl, some (V.int (0 + i)), by rw [← e]; rfl⟩
    · rintro σ H' ⟨rfl, v, rfl⟩
      refine ⟨_, rfl, ?_⟩
      rw [Int.toNat_natCast]
      exact k
theorem dbl {g w : Int} (h : 0 ≤ w) (l : g * g ≤ w) : g ≤ w := by
  rcases Int.lt_or_le w g with z | z
  · have : g * 1 ≤ g * g := Int.mul_le_mul_of_nonneg_left (by omega) (by omega)
    omega
  · exact z
abbrev s_law_root : Stmt := top 28
theorem sc_law_root : FnScope ["_law_worth", "_law_least", "_law_over", "_law_middle"] ["_law_worth"] (defScope s_law_root) := ⟨rfl, rfl, rfl, by decide +kernel, rfl, by decide +kernel, by decide +kernel⟩

theorem ok_root {f : Addr} {fd : FuncData} (F : Fun K "_law_root" "_law_root" s_law_root f fd) (T : Txt K mg) : FnOk P w K mg base CX0 1 f fd ["_law_worth"] spRoot := by
  refine F.ok sc_law_root (fun vs H Q E h => ?_) (fun cdv A outer s H vs Q E hr h => ?_)
  · obtain ⟨n, rfl, _⟩ := h
    rfl
  · obtain ⟨n, rfl, n0, ns, k⟩ := h
    refine ⟨_, (pss_cons (ps_asg (pe_tup (pa_cons pe_int (pa_cons pe_int pa_nil))) (pg_tup rfl (pgs_cons (pg_name (i := 1) sc_law_root.nd rfl (.inl rfl)) (pgs_cons (pg_name (i := 2) sc_law_root.nd rfl (.inl rfl)) pgs_nil))))
      (pss_cons (ps_while PassesOwn.never (pt_cmpR op_le (pe_op op_mulX (pv 2) (pv 2)) (pv 0) (nomark _)) (pss_one (ps_set (i := 2) sc_law_root.nd rfl (.inl rfl) (pe_op op_mul pe_int (pv 2)))))
      (pss_cons (ps_while PassesOwn.never (pt_cmpR op_gt (pe_op op_sub (pv 2) (pv 1)) pe_int (nomark _)) (pss_cons (ps_set (i := 3) sc_law_root.nd rfl (.inl rfl) (pe_op op_fdivW (pe_op op_add (pv 1) (pv 2)) pe_int))
      (pss_one (ps_if (pt_cmpR op_le (pe_op op_mulX (pv 3) (pv 3)) (pv 0) (nomark _)) (pss_one (ps_set (i := 1) sc_law_root.nd rfl (.inl rfl) (pv 3))) (pss_one (ps_set (i := 2) sc_law_root.nd rfl (.inl rfl) (pv 3)))))))
      (pss_one (ps_ret (pv 1)))))), ?_⟩
    refine ⟨(by show 2 ≤ sizeLine; decide), fun p hp => ⟨p, _, rfl, SqT.of upd_same, rfl, _, _, rfl, _, _, rfl, rfl, ?_⟩⟩
    have sm : Same H (upd H p (.tup [.int 0, .int 1])) := same_upd hp
    refine while_by (fun σ H' => H' = upd H p (.tup [.int 0, .int 1]) ∧ ∃ o : Int, σ = [some (.int n), some (.int 0), some (.int o), none] ∧ 1 ≤ o ∧ o ≤ 2 * n + 1 ∧ Sm 4002 o) (fun σ _ => match σ with | [_, _, some (.int o), _] => (2 * n + 2 - o).toNat | _ => 0) ⟨rfl, 1, rfl, by decide, by omega, ?_⟩ ?_ ?_
    · unfold Sm
      exact Nat.lt_of_lt_of_le (by decide : (1 : Int).natAbs < 2 ^ 1) (Nat.pow_le_pow_right (by decide) (by decide))
    · rintro σ H' ⟨rfl, o, rfl, o1, o2, os⟩
      refine ⟨_, rfl, _, rfl, _, _, rfl, rfl, mx os os, _, rfl, _, _, rfl, rfl, _, rfl, ite2 (fun e => ?_) (fun e => ?_)⟩
      · have e0 : o * o ≤ n := of_decide_eq_true e
        have e1 := dbl n0 e0
        refine ⟨_, rfl, _, _, rfl, rfl, .inl ⟨by decide, by decide⟩, ⟨rfl, _, rfl, by omega, by omega, ?_⟩, ?_⟩
        · have s1 : Sm 4000 o := ns.of (by omega) e1
          exact (Sm.mul (m := 2) (n := 4000) (x := 2) (by unfold Sm; decide) s1).mono (by decide)
        · show (2 * n + 2 - 2 * o).toNat < (2 * n + 2 - o).toNat
          omega
      · have e0 : ¬ o * o ≤ n := fun z => e (decide_eq_true z)
        refine while_by (fun σ H' => H' = upd H p (.tup [.int 0, .int 1]) ∧ ∃ (l o : Int) (v : Option V), σ = [some (.int n), some (.int l), some (.int o), v] ∧ 0 ≤ l ∧ l < o ∧ l * l ≤ n ∧ n < o * o ∧ Sm 4002 o) (fun σ _ => match σ with | [_, some (.int l), some (.int o), _] => (o - l).toNat | _ => 0) ⟨rfl, 0, o, none, rfl, by decide, by omega, by omega, by omega, os⟩ ?_ ?_
        · rintro σ H' ⟨rfl, l, o, v, rfl, l0, lo, hl, ho, os⟩
          refine ⟨_, rfl, _, rfl, _, _, rfl, rfl, _, _, rfl, rfl, _, rfl, ite2 (fun e => ?_) (fun e => ?_)⟩
          · have e0 : 1 < o - l := of_decide_eq_true e
            refine ⟨_, rfl, _, rfl, _, _, rfl, rfl, _, _, rfl, rfl, dvw (b := 3) (by decide) (by unfold Sm; decide), ?_⟩
            have m1 : l < (l + o) / 2 := by omega
            have m2 : (l + o) / 2 < o := by omega
            have ms : Sm 4002 ((l + o) / 2) := os.of (by omega) (by omega)
            refine ⟨_, rfl, _, rfl, _, _, rfl, rfl, mx ms ms, _, rfl, _, _, rfl, rfl, _, rfl, ite2 (fun e3 => ?_) (fun e3 => ?_)⟩
            · have e4 : (l + o) / 2 * ((l + o) / 2) ≤ n := of_decide_eq_true e3
              refine ⟨_, rfl, ⟨rfl, _, _, _, rfl, by omega, m2, e4, ho, os⟩, ?_⟩
              show (o - (l + o) / 2).toNat < (o - l).toNat
              omega
            · have e4 : ¬ (l + o) / 2 * ((l + o) / 2) ≤ n := fun z => e3 (decide_eq_true z)
              refine ⟨_, rfl, ⟨rfl, _, _, _, rfl, l0, m1, hl, by omega, ms⟩, ?_⟩
              show ((l + o) / 2 - l).toNat < (o - l).toNat
              omega
          · have e0 : ¬ 1 < o - l := fun z => e (decide_eq_true z)
            have eo : o = l + 1 := by omega
            subst eo
            refine ⟨_, rfl, ?_⟩
            rw [rt_of ⟨l0, hl, ho⟩]
            exact k _ sm
        · rintro σ H' Q1 Q2 hq h
          obtain ⟨v, e1, v2, e2, i, j, e3, e4, i2, j2, e5, e6, z⟩ := h
          exact ⟨v, e1, v2, e2, i, j, e3, e4, i2, j2, e5, e6, z.imp fun k z => ⟨z.1, hq _ _ z.2⟩⟩
    · rintro σ H' Q1 Q2 hq h
      obtain ⟨v, e1, v2, e2, i, j, e3, e4, cm, v3, e5, i2, j2, e6, e7, z⟩ := h
      exact ⟨v, e1, v2, e2, i, j, e3, e4, cm, v3, e5, i2, j2, e6, e7, z.imp fun k z => ⟨z.1, hq _ _ z.2⟩⟩
theorem pow_up {a b : Nat} (h : a ≤ b) : (2 : Int) ^ a ≤ 2 ^ b := by
  have := Nat.pow_le_pow_right (n := 2) (by decide) h
  have e : ∀ k : Nat, ((2 ^ k : Nat) : Int) = 2 ^ k := fun k => by rw [Int.natCast_pow]; rfl
  rw [← e, ← e]
  omega
theorem bits_lt {n : Int} (h : 0 ≤ n) : n < 2 ^ (Builtin.Int.intBits n) := by
  unfold Builtin.Int.intBits
  by_cases z : n = 0
  · subst z
    decide
  · rw [if_neg (by simpa using z)]
    have := Nat.lt_log2_self (n := n.natAbs)
    have e : ((2 ^ (n.natAbs.log2 + 1) : Nat) : Int) = 2 ^ (n.natAbs.log2 + 1) := by rw [Int.natCast_pow]; rfl
    rw [← e]
    omega
theorem bits_le {n : Int} {m : Nat} (h : Sm m n) : Builtin.Int.intBits n ≤ m := PyProof.Rows.intBits_le h
abbrev s_square_root : Stmt := top 8
theorem sc_square_root : FnScope ["number", "guess"] ["number"] (defScope s_square_root) := ⟨rfl, rfl, rfl, by decide +kernel, rfl, by decide +kernel, by decide +kernel⟩

theorem ok_sqrt {f : Addr} {fd : FuncData} (F : Fun K "square_root" "square_root" s_square_root f fd) : FnOk P w K mg base CX0 1 f fd ["number"] spRoot := by
  refine F.ok sc_square_root (fun vs H Q E h => ?_) (fun cdv A outer s H vs Q E hr h => ?_)
  · obtain ⟨n, rfl, _⟩ := h
    rfl
  · obtain ⟨n, rfl, n0, ns, k⟩ := h
    refine ⟨_, (pss_cons (ps_set (i := 1) sc_square_root.nd rfl (.inl rfl) (pe_op op_oneShl pe_int (pe_op op_fdivW (pe_op op_add (pe_bits (pv 0)) pe_int) pe_int)))
      (pss_cons (ps_while PassesOwn.never (pt_cmpR op_gt (pe_op op_mulX (pv 1) (pv 1)) (pv 0) (nomark _)) (pss_one (ps_set (i := 1) sc_square_root.nd rfl (.inl rfl) (pe_op op_fdivW (pe_op op_add (pv 1) (pe_op op_fdivW (pv 0) (pv 1))) pe_int))))
      (pss_one (ps_ret (pv 1))))), ?_⟩
    have hb := bits_le ns
    have hl := bits_lt n0
    refine ⟨_, rfl, n, rfl, _, _, rfl, rfl, _, _, rfl, rfl, dvw (b := 3) (by decide) (by unfold Sm; decide), ?_⟩
    have ek : ((Builtin.Int.intBits n : Nat) + 1 : Int) / 2 = (((Builtin.Int.intBits n + 1) / 2 : Nat) : Int) := by omega
    generalize Builtin.Int.intBits n = b at *
    refine ⟨(b + 1) / 2, rfl, congrArg V.int ek, (by omega), ?_⟩
    have ks : (b + 1) / 2 ≤ 2000 := by omega
    have kb : b ≤ (b + 1) / 2 + (b + 1) / 2 := by omega
    generalize (b + 1) / 2 = q at *
    have p0 : (0 : Int) < 2 ^ q := Int.pow_pos (by decide)
    have hp : n < 2 ^ q * 2 ^ q := by
      rw [← Int.pow_add]
      exact Int.lt_of_lt_of_le hl (pow_up kb)
    have gs : Sm 2001 (2 ^ q) := by
      unfold Sm
      rw [Int.natAbs_pow]
      exact Nat.pow_lt_pow_right (by decide) (by omega)
    refine while_by (fun σ H' => H' = H ∧ ∃ g : Int, σ = [some (.int n), some (.int g)] ∧ 0 ≤ g ∧ n < (g + 1) * (g + 1) ∧ Sm 2001 g) (fun σ _ => match σ with | [_, some (.int g)] => g.toNat | _ => 0) ⟨rfl, 2 ^ q, rfl, by omega, ?_, gs⟩ ?_ ?_
    · have e : ((2 : Int) ^ q + 1) * (2 ^ q + 1) = 2 ^ q * 2 ^ q + 2 * 2 ^ q + 1 := by
        generalize (2 : Int) ^ q = u
        grind
      omega
    · rintro σ H' ⟨rfl, g, rfl, g0, g1, gs⟩
      refine ⟨_, rfl, _, rfl, _, _, rfl, rfl, mx gs gs, _, rfl, _, _, rfl, rfl, _, rfl, ite2 (fun e => ?_) (fun e => ?_)⟩
      · have e0 : n < g * g := of_decide_eq_true e
        obtain ⟨h1, h2, h3, h4⟩ := newton n0 g0 g1 e0
        refine ⟨_, rfl, _, rfl, _, rfl, _, _, rfl, rfl, dvw h1 gs, _, _, rfl, rfl, _, _, rfl, rfl, dvw (b := 3) (by decide) (by unfold Sm; decide), ⟨rfl, _, rfl, h2, h4, gs.of (by omega) (by omega)⟩, ?_⟩
        show ((g + n / g) / 2).toNat < g.toNat
        omega
      · have e0 : ¬ n < g * g := fun z => e (decide_eq_true z)
        refine ⟨_, rfl, ?_⟩
        rw [rt_of ⟨g0, by omega, g1⟩]
        exact k _ (Same.refl _)
    · rintro σ H' Q1 Q2 hq h
      obtain ⟨v, e1, v2, e2, i, j, e3, e4, cm, v3, e5, i2, j2, e6, e7, z⟩ := h
      exact ⟨v, e1, v2, e2, i, j, e3, e4, cm, v3, e5, i2, j2, e6, e7, z.imp fun k z => ⟨z.1, hq _ _ z.2⟩⟩
end
end RL

namespace RL
open PySem L2
structure Txt2 (K : PySem.W.Frag) (mg : Str → Option Value) (tP : Tok) (C : Addr) : Prop extends Txt K mg where
  mgP : mg "GREATEST_PART" = some (.int 10000000000000000000000000000000000000000 tP)
  mgC : mg "Exact" = some (.ref C)
  cl : Cls K C
  nP : NoAttr K C "parts"
/-- a resistance's two integers -/
def ResP (t b : Int) : Prop := (0 ≤ t ∧ t ≤ 1000000000000 ∧ 1 ≤ b ∧ b ≤ 1000000000000) ∨ (t = 1 ∧ b = 0)
def spIsInt : Sp := fun vs H Q _ => (∃ i, vs = [.int i] ∧ Q (.bl true) H) ∨ (∃ p xs, vs = [.ref p] ∧ H p = some (.tup xs) ∧ Q (.bl false) H)
def spWithin : Sp := fun vs H Q _ => ∃ v lo hi : Int, vs = [.int v, .int lo, .int hi] ∧ lo ≤ v ∧ v ≤ hi ∧ Q (.bl true) H
def spGcd : Sp := fun vs H Q _ => ∃ x y : Int, vs = [.int x, .int y] ∧ Q (.int (gc x y)) H
def spLow : Sp := fun vs H Q _ => ∃ (t b : Int), vs = [.int t, .int b] ∧ 0 < b ∧ Sm 4000 b ∧
  ∀ H' p, Same H H' → H p = none → H' p = some (.tup [.int (t / gc t b), .int (b / gc t b)]) → Q (.ref p) H'
def spSign : Sp := fun vs H Q _ => ∃ n : Int, vs = [.int n] ∧ Q (.int (sg n)) H
def spUnder : Sp := fun vs H Q _ => ∃ s l w : Int, vs = [.int s, .int l, .int w] ∧ Sm 1000 s ∧ Sm 1000 l ∧ Sm 1000 w ∧ Q (.int (l * l + 4 * s * w)) H
def spEqF : Sp := fun vs H Q _ => ∃ (t b : Int), vs = [.int t, .int b] ∧ 0 < b ∧ Sm 4000 b ∧
  ∀ H' p, Same H H' → H p = none → H' p = some (.tup [.int 0, .int (b / gc t b), .int (t / gc t b)]) → Q (.ref p) H'
def spSimp : Sp := fun vs H Q _ => ∃ a b c : Int, vs = [.int a, .int b, .int c] ∧ Good a b c ∧ Sm 133 a ∧ Sm 133 b ∧ Sm 133 c ∧
  ∀ H' p, Same H H' → H p = none → H' p = some (.tup [.int (parts a b c).1, .int (parts a b c).2.1, .int (parts a b c).2.2]) → Q (.ref p) H'
def spBeside : Sp := fun vs H Q _ => ∃ (p : Addr) (s l w x y : Int), vs = [.ref p, .int x, .int y] ∧ H p = some (.tup [.int s, .int l, .int w]) ∧ Sm 1000 s ∧ Sm 1000 l ∧ Sm 1000 w ∧ Sm 1000 x ∧ Sm 1000 y ∧ Q (.int (beside s l w x y)) H
section
variable {P : Program} {w : World} {K : PySem.W.Frag} {mg : Str → Option Value} {base : Heap} {tP : Tok} {C : Addr}
abbrev s_is_integer : Stmt := top 2
theorem sc_is_integer : FnScope ["value"] ["value"] (defScope s_is_integer) := ⟨rfl, rfl, rfl, by decide +kernel, rfl, by decide +kernel, by decide +kernel⟩

theorem ok_isint {f : Addr} {fd : FuncData} (F : Fun K "is_integer" "is_integer" s_is_integer f fd) (T : Txt K mg) : FnOk P w K mg base CX0 1 f fd ["value"] spIsInt := by
  refine F.ok sc_is_integer (fun vs H Q E h => ?_) (fun cdv A outer s H vs Q E hr h => ?_)
  · rcases h with ⟨i, rfl, _⟩ | ⟨p, xs, rfl, _⟩ <;> rfl
  · refine ⟨_, (pss_one (ps_ret (pe_and (pe_callB call_isi (by rfl) T.isinstance (by decide +kernel) (pa_cons (pv 0) (pa_cons (pe_bltn (v := .ty "int") (by rfl) T.int_ (by decide +kernel) rfl) pa_nil))) (pe_one (pe_not (pe_callB call_isi (by rfl) T.isinstance (by decide +kernel) (pa_cons (pv 0) (pa_cons (pe_bltn (v := .ty "bool") (by rfl) T.bool_ (by decide +kernel) rfl) pa_nil)))))))), ?_⟩
    rcases h with ⟨i, rfl, k⟩ | ⟨p, xs, rfl, hp, k⟩
    · refine ⟨_, rfl, _, _, _, _, true, rfl, .ty _, .base (.int i), kit_ty (by decide +kernel), true, rfl, iteT ?_⟩
      exact ⟨_, rfl, _, _, _, _, false, rfl, .ty _, .base (.int i), kit_ty (by decide +kernel), false, rfl, k⟩
    · refine ⟨_, rfl, _, _, _, _, false, rfl, .ty _, .base (.tup hp), kit_ty (by decide +kernel), false, rfl, iteF ?_⟩
      exact k
abbrev s_is_integer_within : Stmt := top 3
theorem sc_is_integer_within : FnScope ["value", "least", "most"] ["value", "least", "most"] (defScope s_is_integer_within) := ⟨rfl, rfl, rfl, by decide +kernel, rfl, by decide +kernel, by decide +kernel⟩

theorem ok_within {f : Addr} {fd : FuncData} (F : Fun K "is_integer_within" "is_integer_within" s_is_integer_within f fd) (D_is_integer : Df P w K mg base 1 "is_integer" ["value"] spIsInt) : FnOk P w K mg base CX0 2 f fd ["value", "least", "most"] spWithin := by
  refine F.ok sc_is_integer_within (fun vs H Q E h => ?_) (fun cdv A outer s H vs Q E hr h => ?_)
  · obtain ⟨v, lo, hi, rfl, _⟩ := h
    rfl
  · obtain ⟨v, lo, hi, rfl, h1, h2, k⟩ := h
    refine ⟨_, (pss_one (ps_ret (pe_and (pe_df D_is_integer (hr.mono (by decide)) (by rfl) (pa_cons (pv 0) pa_nil)) (pe_one (pe_chain op_le op_le (pv 1) (pv 0) (pv 2)))))), ?_⟩
    refine ⟨_, rfl, .inl ⟨v, rfl, true, rfl, iteT ?_⟩⟩
    refine ⟨_, rfl, _, rfl, _, _, rfl, rfl, _, rfl, ite2 (fun _ => ?_) (fun e => absurd (decide_eq_true h1) e)⟩
    refine ⟨_, rfl, _, _, rfl, rfl, ?_⟩
    show Q (.bl (decide (v ≤ hi))) H
    rw [decide_eq_true h2]
    exact k
abbrev s_common_divisor : Stmt := top 4
theorem sc_common_divisor : FnScope ["first", "second", "high", "low"] ["first", "second"] (defScope s_common_divisor) := ⟨rfl, rfl, rfl, by decide +kernel, rfl, by decide +kernel, by decide +kernel⟩

theorem ok_gcd {f : Addr} {fd : FuncData} (F : Fun K "common_divisor" "common_divisor" s_common_divisor f fd) (T : Txt K mg) : FnOk P w K mg base CX0 1 f fd ["first", "second"] spGcd := by
  refine F.ok sc_common_divisor (fun vs H Q E h => ?_) (fun cdv A outer s H vs Q E hr h => ?_)
  · obtain ⟨t, b, rfl, _⟩ := h
    rfl
  · obtain ⟨t, b, rfl, k⟩ := h
    refine ⟨_, (pss_cons (ps_par (by rfl) sc_common_divisor.nd (i := 2) (j := 3) rfl rfl (by decide) rfl rfl (pa_cons (pe_callB call_abs (by rfl) T.abs (by decide +kernel) (pa_cons (pv 0) pa_nil)) (pa_cons (pe_callB call_abs (by rfl) T.abs (by decide +kernel) (pa_cons (pv 1) pa_nil)) pa_nil)) (by rfl))
      (pss_cons (ps_while PassesOwn.never (pt_cmpR op_gt (pv 3) pe_int (nomark _)) (pss_one (ps_par (by rfl) sc_common_divisor.nd (i := 2) (j := 3) rfl rfl (by decide) rfl rfl (pa_cons (pv 3) (pa_cons (pe_op op_mod (pv 2) (pv 3)) pa_nil)) (by rfl))))
      (pss_one (ps_ret (pv 2))))), ?_⟩
    refine ⟨_, rfl, _, rfl, _, rfl, _, rfl, _, _, rfl, ?_⟩
    refine while_by (fun σ H' => H' = H ∧ ∃ x y : Int, σ = [some (.int t), some (.int b), some (.int x), some (.int y)] ∧ 0 ≤ x ∧ 0 ≤ y ∧ gc x y = gc t b) (fun σ _ => match σ with | [_, _, _, some (.int y)] => y.toNat | _ => 0) ⟨rfl, _, _, rfl, by split <;> omega, by split <;> omega, gc_abs _ _⟩ ?_ ?_
    · rintro σ H' ⟨rfl, x, y, rfl, x0, y0, eg⟩
      refine ⟨_, rfl, _, _, rfl, rfl, _, rfl, ite2 (fun e => ?_) (fun e => ?_)⟩
      · have e0 : 0 < y := of_decide_eq_true e
        refine ⟨_, rfl, _, rfl, _, rfl, _, _, rfl, rfl, e0, _, _, rfl, ?_⟩
        have q1 := Int.emod_nonneg x (show y ≠ 0 by omega)
        have q2 := Int.emod_lt_of_pos x e0
        refine ⟨⟨rfl, y, x % y, rfl, y0, q1, ?_⟩, ?_⟩
        · rw [gc_step x0 e0, eg]
        · show (x % y).toNat < y.toNat
          omega
      · have e0 : ¬ 0 < y := fun z => e (decide_eq_true z)
        have y1 : y = 0 := by omega
        subst y1
        rw [gc_zero x0] at eg
        subst eg
        exact ⟨_, rfl, k⟩
    · rintro σ H' Q1 Q2 hq h
      obtain ⟨v, e1, i, j, e2, e3, z⟩ := h
      exact ⟨v, e1, i, j, e2, e3, z.imp fun k z => ⟨z.1, hq _ _ z.2⟩⟩
abbrev s_lowest_terms : Stmt := top 5
theorem sc_lowest_terms : FnScope ["top", "bottom", "divisor"] ["top", "bottom"] (defScope s_lowest_terms) := ⟨rfl, rfl, rfl, by decide +kernel, rfl, by decide +kernel, by decide +kernel⟩

theorem ok_low {f : Addr} {fd : FuncData} (F : Fun K "lowest_terms" "lowest_terms" s_lowest_terms f fd) (D_common_divisor : Df P w K mg base 1 "common_divisor" ["first", "second"] spGcd) : FnOk P w K mg base CX0 2 f fd ["top", "bottom"] spLow := by
  refine F.ok sc_lowest_terms (fun vs H Q E h => ?_) (fun cdv A outer s H vs Q E hr h => ?_)
  · obtain ⟨t, b, rfl, _⟩ := h
    rfl
  · obtain ⟨t, b, rfl, b0, bs, k⟩ := h
    refine ⟨_, (pss_cons (ps_set (i := 2) sc_lowest_terms.nd rfl (.inl rfl) (pe_df D_common_divisor (hr.mono (by decide)) (by rfl) (pa_cons (pv 0) (pa_cons (pv 1) pa_nil))))
      (pss_one (ps_ret (pe_tup (pa_cons (pe_op op_fdivW (pv 0) (pv 2)) (pa_cons (pe_op op_fdivW (pv 1) (pv 2)) pa_nil)))))), ?_⟩
    have g0 : 0 < gc t b := gc_pos (.inr (by omega))
    have gb : gc t b ≤ b := Int.le_of_dvd b0 (gc_dvd2 _ _)
    have gs : Sm 4000 (gc t b) := bs.of (by omega) gb
    refine ⟨_, rfl, _, rfl, t, b, rfl, ?_⟩
    refine ⟨_, rfl, _, rfl, _, _, rfl, rfl, dvw g0 gs, _, rfl, _, rfl, _, _, rfl, rfl, dvw g0 gs, (by show 2 ≤ sizeLine; decide), fun p hp => ?_⟩
    exact k _ _ (same_upd hp) hp upd_same
abbrev s_sign : Stmt := top 7
theorem sc_sign : FnScope ["number"] ["number"] (defScope s_sign) := ⟨rfl, rfl, rfl, by decide +kernel, rfl, by decide +kernel, by decide +kernel⟩

theorem ok_sign {f : Addr} {fd : FuncData} (F : Fun K "sign" "sign" s_sign f fd) : FnOk P w K mg base CX0 1 f fd ["number"] spSign := by
  refine F.ok sc_sign (fun vs H Q E h => ?_) (fun cdv A outer s H vs Q E hr h => ?_)
  · obtain ⟨n, rfl, _⟩ := h
    rfl
  · obtain ⟨n, rfl, k⟩ := h
    refine ⟨_, (pss_cons (ps_if (pt_cmpR op_gt (pv 0) pe_int (nomark _)) (pss_one (ps_ret pe_int)) pss_nil)
      (pss_cons (ps_if (pt_cmpR op_lt (pv 0) pe_int (nomark _)) (pss_one (ps_ret (pe_un un_neg pe_int))) pss_nil)
      (pss_one (ps_ret pe_int)))), ?_⟩
    unfold sg at k
    refine ⟨_, rfl, _, _, rfl, rfl, _, rfl, ite2 (fun e => ?_) (fun e => ?_)⟩
    · rw [if_pos (show 0 < n from of_decide_eq_true e)] at k
      exact k
    · rw [if_neg (show ¬ 0 < n from fun z => e (decide_eq_true z))] at k
      refine ⟨_, rfl, _, _, rfl, rfl, _, rfl, ite2 (fun e2 => ?_) (fun e2 => ?_)⟩
      · rw [if_pos (show n < 0 from of_decide_eq_true e2)] at k
        exact ⟨1, rfl, k⟩
      · rw [if_neg (show ¬ n < 0 from fun z => e2 (decide_eq_true z))] at k
        exact k
abbrev s_under_root : Stmt := top 15
theorem sc_under_root : FnScope ["square", "line", "whole"] ["square", "line", "whole"] (defScope s_under_root) := ⟨rfl, rfl, rfl, by decide +kernel, rfl, by decide +kernel, by decide +kernel⟩

theorem ok_under {f : Addr} {fd : FuncData} (F : Fun K "under_root" "under_root" s_under_root f fd) : FnOk P w K mg base CX0 1 f fd ["square", "line", "whole"] spUnder := by
  refine F.ok sc_under_root (fun vs H Q E h => ?_) (fun cdv A outer s H vs Q E hr h => ?_)
  · obtain ⟨a, b, c, rfl, _⟩ := h
    rfl
  · obtain ⟨a, b, c, rfl, ha, hb, hc, k⟩ := h
    refine ⟨_, (pss_one (ps_ret (pe_op op_add (pe_op op_mulX (pv 1) (pv 1)) (pe_op op_mulX (pe_op op_mul pe_int (pv 0)) (pv 2))))), ?_⟩
    have h4 : Sm 1003 (4 * a) := Sm.mul (m := 3) (n := 1000) (x := 4) (by unfold Sm; decide) ha
    exact ⟨_, rfl, _, rfl, _, _, rfl, rfl, mx hb hb, _, rfl, _, _, rfl, rfl, .inl ⟨by decide, by decide⟩, _, rfl, _, _, rfl, rfl, mx h4 hc, _, _, rfl, rfl, k⟩
abbrev s_equation_of_fraction : Stmt := top 17
theorem sc_equation_of_fraction : FnScope ["top", "bottom", "top_part", "bottom_part"] ["top", "bottom"] (defScope s_equation_of_fraction) := ⟨rfl, rfl, rfl, by decide +kernel, rfl, by decide +kernel, by decide +kernel⟩

theorem ok_eqf {f : Addr} {fd : FuncData} (F : Fun K "equation_of_fraction" "equation_of_fraction" s_equation_of_fraction f fd) (D_lowest_terms : Df P w K mg base 2 "lowest_terms" ["top", "bottom"] spLow) : FnOk P w K mg base CX0 3 f fd ["top", "bottom"] spEqF := by
  refine F.ok sc_equation_of_fraction (fun vs H Q E h => ?_) (fun cdv A outer s H vs Q E hr h => ?_)
  · obtain ⟨t, b, rfl, _⟩ := h
    rfl
  · obtain ⟨t, b, rfl, b0, bs, k⟩ := h
    refine ⟨_, (pss_cons (ps_asg (pe_df D_lowest_terms (hr.mono (by decide)) (by rfl) (pa_cons (pv 0) (pa_cons (pv 1) pa_nil))) (pg_tup rfl (pgs_cons (pg_name (i := 2) sc_equation_of_fraction.nd rfl (.inl rfl)) (pgs_cons (pg_name (i := 3) sc_equation_of_fraction.nd rfl (.inl rfl)) pgs_nil))))
      (pss_one (ps_ret (pe_tup (pa_cons pe_int (pa_cons (pv 3) (pa_cons (pv 2) pa_nil))))))), ?_⟩
    refine ⟨_, rfl, _, rfl, t, b, rfl, b0, bs, fun H1 p sm np hp => ?_⟩
    refine ⟨p, _, rfl, SqT.of hp, rfl, _, _, rfl, _, _, rfl, rfl, ?_⟩
    exact ⟨_, rfl, _, rfl, (by show 3 ≤ sizeLine; decide), fun q hq => k _ q (sm.trans (same_upd hq)) (sm.free hq) upd_same⟩
abbrev s_beside_fraction : Stmt := top 19
theorem sc_beside_fraction : FnScope ["parts", "top", "bottom", "square", "line", "whole"] ["parts", "top", "bottom"] (defScope s_beside_fraction) := ⟨rfl, rfl, rfl, by decide +kernel, rfl, by decide +kernel, by decide +kernel⟩

theorem ok_beside {f : Addr} {fd : FuncData} (F : Fun K "beside_fraction" "beside_fraction" s_beside_fraction f fd) (D_sign : Df P w K mg base 1 "sign" ["number"] spSign) : FnOk P w K mg base CX0 2 f fd ["parts", "top", "bottom"] spBeside := by
  refine F.ok sc_beside_fraction (fun vs H Q E h => ?_) (fun cdv A outer s H vs Q E hr h => ?_)
  · obtain ⟨p, s, l, w, x, y, rfl, _⟩ := h
    rfl
  · obtain ⟨p, sq, l, w, x, y, rfl, hp, hs, hl, hw, hx, hy, k⟩ := h
    refine ⟨_, (pss_cons (ps_asg (pv 0) (pg_tup rfl (pgs_cons (pg_name (i := 3) sc_beside_fraction.nd rfl (.inl rfl)) (pgs_cons (pg_name (i := 4) sc_beside_fraction.nd rfl (.inl rfl)) (pgs_cons (pg_name (i := 5) sc_beside_fraction.nd rfl (.inl rfl)) pgs_nil)))))
      (pss_one (ps_ret (pe_df D_sign (hr.mono (by decide)) (by rfl) (pa_cons (pe_op op_sub (pe_op op_sub (pe_op op_mulX (pe_op op_mulX (pv 5) (pv 2)) (pv 2)) (pe_op op_mulX (pe_op op_mulX (pv 4) (pv 1)) (pv 2))) (pe_op op_mulX (pe_op op_mulX (pv 3) (pv 1)) (pv 1))) pa_nil))))), ?_⟩
    refine ⟨_, rfl, p, _, rfl, SqT.of hp, rfl, _, _, rfl, _, _, rfl, _, _, rfl, rfl, ?_⟩
    refine ⟨_, rfl, _, rfl, _, _, rfl, rfl, mx hw hy, _, rfl, _, _, rfl, rfl, mx (hw.mul hy) hy, _, rfl, _, rfl, _, _, rfl, rfl, mx hl hx, _, rfl, _, _, rfl, rfl, mx (hl.mul hx) hy, _, _, rfl, rfl, _, rfl, _, rfl, _, _, rfl, rfl, mx hs hx, _, rfl, _, _, rfl, rfl, mx (hs.mul hx) hx, _, _, rfl, rfl, _, rfl, ?_⟩
    exact k
abbrev s_simplest_equation : Stmt := top 16
theorem sc_simplest_equation : FnScope ["square", "line", "whole", "inside", "root", "divisor"] ["square", "line", "whole"] (defScope s_simplest_equation) := ⟨rfl, rfl, rfl, by decide +kernel, rfl, by decide +kernel, by decide +kernel⟩

theorem ok_simp {f : Addr} {fd : FuncData} (F : Fun K "simplest_equation" "simplest_equation" s_simplest_equation f fd) (D_common_divisor : Df P w K mg base 1 "common_divisor" ["first", "second"] spGcd) (D_square_root : Df P w K mg base 1 "square_root" ["number"] spRoot)
    (D_under_root : Df P w K mg base 1 "under_root" ["square", "line", "whole"] spUnder) (D_equation_of_fraction : Df P w K mg base 3 "equation_of_fraction" ["top", "bottom"] spEqF) : FnOk P w K mg base CX0 4 f fd ["square", "line", "whole"] spSimp := by
  refine F.ok sc_simplest_equation (fun vs H Q E h => ?_) (fun cdv A outer s H vs Q E hr h => ?_)
  · obtain ⟨a, b, c, rfl, _⟩ := h
    rfl
  · obtain ⟨a, b, c, rfl, hG, ha, hb, hc, k⟩ := h
    refine ⟨_, (pss_cons (ps_if (pt_cmpR op_eq (pv 0) pe_int (nomark _)) (pss_one (ps_ret (pe_df D_equation_of_fraction (hr.mono (by decide)) (by rfl) (pa_cons (pv 2) (pa_cons (pv 1) pa_nil))))) pss_nil)
      (pss_cons (ps_set (i := 3) sc_simplest_equation.nd rfl (.inl rfl) (pe_df D_under_root (hr.mono (by decide)) (by rfl) (pa_cons (pv 0) (pa_cons (pv 1) (pa_cons (pv 2) pa_nil)))))
      (pss_cons (ps_set (i := 4) sc_simplest_equation.nd rfl (.inl rfl) (pe_df D_square_root (hr.mono (by decide)) (by rfl) (pa_cons (pv 3) pa_nil)))
      (pss_cons (ps_if (pt_cmpR op_eq (pe_op op_mulX (pv 4) (pv 4)) (pv 3) (nomark _)) (pss_one (ps_ret (pe_df D_equation_of_fraction (hr.mono (by decide)) (by rfl) (pa_cons (pe_op op_sub (pv 4) (pv 1)) (pa_cons (pe_op op_mul pe_int (pv 0)) pa_nil))))) pss_nil)
      (pss_cons (ps_set (i := 5) sc_simplest_equation.nd rfl (.inl rfl) (pe_df D_common_divisor (hr.mono (by decide)) (by rfl) (pa_cons (pe_df D_common_divisor (hr.mono (by decide)) (by rfl) (pa_cons (pv 0) (pa_cons (pv 1) pa_nil))) (pa_cons (pv 2) pa_nil))))
      (pss_one (ps_ret (pe_tup (pa_cons (pe_op op_fdivW (pv 0) (pv 5)) (pa_cons (pe_op op_fdivW (pv 1) (pv 5)) (pa_cons (pe_op op_fdivW (pv 2) (pv 5)) pa_nil))))))))))), ?_⟩
    unfold parts at k
    refine ⟨_, rfl, rfl, _, rfl, ite2 (fun e => ?_) (fun e => ?_)⟩
    · have a0 : a = 0 := V.int.inj (of_decide_eq_true e)
      rw [if_pos a0] at k
      have b0 : 1 ≤ b := by
        rcases hG with z | z
        · exact z.2.1
        · omega
      exact ⟨_, rfl, _, rfl, c, b, rfl, by omega, hb.mono (by decide), k⟩
    · have a0 : ¬ a = 0 := fun z => e (decide_eq_true (congrArg V.int z))
      rw [if_neg a0] at k
      have hg : 1 ≤ a ∧ 1 ≤ c := by
        rcases hG with z | z
        · exact absurd z.1 a0
        · exact z
      have ip := inside_pos (b := b) hg
      have hd : Sm 270 (b * b + 4 * a * c) := by
        have h4 : Sm 3 4 := by unfold Sm; decide
        have e1 : Sm (133 + 133) (b * b) := hb.mul hb
        have e2 : Sm (3 + 133 + 133) (4 * a * c) := (h4.mul ha).mul hc
        exact (Sm.add (n := 269) (e1.mono (by decide)) (e2.mono (by decide)))
      have hr0 : Sm 135 (rt (b * b + 4 * a * c)) := rt_sm (n := 135) ip.2 hd
      refine ⟨_, rfl, _, rfl, _, rfl, a, b, c, rfl, ha.mono (by decide), hb.mono (by decide), hc.mono (by decide), ?_⟩
      refine ⟨_, rfl, _, rfl, ip.2, hd.mono (by decide), fun H1 sm => ?_⟩
      refine ⟨_, rfl, _, rfl, _, _, rfl, rfl, mx hr0 hr0, _, rfl, rfl, _, rfl, ite2 (fun e2 => ?_) (fun e2 => ?_)⟩
      · have e3 : rt (b * b + 4 * a * c) * rt (b * b + 4 * a * c) = b * b + 4 * a * c := V.int.inj (of_decide_eq_true e2)
        rw [if_pos e3] at k
        refine ⟨_, rfl, _, rfl, _, _, rfl, rfl, _, rfl, _, _, rfl, rfl, .inl ⟨by decide, by decide⟩, _, _, rfl, by omega, ?_, fun H2 p sm2 np hp => ?_⟩
        · exact (Sm.mul (m := 2) (n := 133) (x := 2) (by unfold Sm; decide) ha).mono (by decide)
        · exact k _ p (sm.trans sm2) (sm.free np) hp
      · have e3 : ¬ rt (b * b + 4 * a * c) * rt (b * b + 4 * a * c) = b * b + 4 * a * c := fun z => e2 (decide_eq_true (congrArg V.int z))
        rw [if_neg e3] at k
        have g0 : 0 < gc (gc a b) c := gc_pos (.inr (by omega))
        have gb : gc (gc a b) c ≤ c := Int.le_of_dvd (by omega) (gc_dvd2 _ _)
        have gs : Sm 133 (gc (gc a b) c) := hc.of (by omega) gb
        refine ⟨_, rfl, _, rfl, a, b, rfl, _, rfl, _, _, rfl, ?_⟩
        refine ⟨_, rfl, _, rfl, _, _, rfl, rfl, dvw g0 gs, _, rfl, _, rfl, _, _, rfl, rfl, dvw g0 gs, _, rfl, _, rfl, _, _, rfl, rfl, dvw g0 gs, (by show 3 ≤ sizeLine; decide), fun p hp => ?_⟩
        exact k _ _ (sm.trans (same_upd hp)) (sm.free hp) upd_same
end
end RL

namespace RL
open PySem L2 PySem.Spec
/-! ### methods, by position and by one keyword -/
structure Mt (P : Program) (w : World) (K : PySem.W.Frag) (mg : Str → Option Value) (base : Heap) (C : Addr) (k : Nat) (m p1 kw : Str) (sp : Sp) : Prop where
  ex : ∃ (f : Addr) (fd : FuncData), FnOk P w K mg base CX0 k f fd [p1, kw] sp ∧ Meth K C m f ∧ Binds K fd [p1, kw] [] ∧ (∀ (s : Shared) (u v : Value), K.In s.heap → BindsTo s fd ⟨[u], [(kw, v)]⟩ [(p1, u), (kw, v)])
def tMethK (C : Addr) (m : Str) (sp : Sp) (ta : TE) (tk : TA) : TE := fun σ H Q => ta σ H fun x H1 => ∃ a dx fs, x = .ref a ∧ H1 a = some (.ins C dx fs) ∧ fs.lookup m = none ∧ tk σ H1 fun zs H2 => sp (.ref a :: zs) H2 Q E0
section
variable {X : Cx} {k : Nat} {C : Addr} {sp : Sp} {m p1 kw : Str} {p pos apos kpos : Pos} {e o : Expr} {es : List Expr} {t : TA} {ta te : TE} {tk : TA}
theorem pe_dm {pl : Sem Bool} (he : PE X o ta) (c : Cls X.K C) (D : Mt X.prog X.w X.K X.mg X.base C k m p1 kw sp) (hr : Room k X.A) (ha : PA X (e :: es) t)
    (hst : starEach (e :: es) X.env = (false, eval e X.env) :: starEach es X.env := by rfl) (hpl : (backTo pos (starEach es X.env)).any (·.1) = false := by rfl)
    (ht : eval (.Call (.Attribute o m apos) (e :: es) [] pos) X.env = (do
      let ov ← eval o X.env
      standAt apos.atName
      let (f, first) ← holding [ov] (getMethod ov m pl)
      callWith pos f first (backTo pos (starEach (e :: es) X.env)) (backToKw pos (keywordEach [] X.env))) := by rfl) :
    PE X (.Call (.Attribute o m apos) (e :: es) [] pos) (tMeth C m sp [] E0 ta t) := by
  obtain ⟨f, fd, F, hm, hb, _⟩ := D.ex
  exact pe_meth (pl := pl) he c hm F hr hb .nil pass0 ha hst hpl ht
theorem pe_mk {pl : Sem Bool} (he : PE X o ta) (c : Cls X.K C) (D : Mt X.prog X.w X.K X.mg X.base C k m p1 kw sp) (hr : Room k X.A) (hkw : PK X [⟨some kw, e, kpos⟩] tk)
    (hall : (backToKw pos (keywordEach [⟨some kw, e, kpos⟩] X.env)).all (·.1.isSome) = true := by rfl) (hks : (backToKw pos (keywordEach [⟨some kw, e, kpos⟩] X.env)).filterMap (·.1) = [kw] := by rfl)
    (hpl : ((backTo pos (starEach [] X.env)).any (·.1) || (backToKw pos (keywordEach [⟨some kw, e, kpos⟩] X.env)).any (·.1.isNone)) = false := by rfl)
    (ht : eval (.Call (.Attribute o m apos) [] [⟨some kw, e, kpos⟩] pos) X.env = (do
      let ov ← eval o X.env
      standAt apos.atName
      let (f, first) ← holding [ov] (getMethod ov m pl)
      callWith pos f first (backTo pos (starEach [] X.env)) (backToKw pos (keywordEach [⟨some kw, e, kpos⟩] X.env))) := by rfl) :
    PE X (.Call (.Attribute o m apos) [] [⟨some kw, e, kpos⟩] pos) (tMethK C m sp ta tk) := by
  obtain ⟨f, fd, F, hm, _, hb⟩ := D.ex
  refine ⟨fun pins s σ H Q I h => ?_⟩
  refine PySem.W.methodCall_KW (pl := pl) (thn (he.run pins s σ H _ I h) fun u s1 ⟨x, H1, I1, rx, a, dx, fs, ex, ea, l, q⟩ => ?_) ht
  subst ex
  obtain rfl : u = Value.ref a := rx
  refine getmeth_ok I1 ea c hm l ?_
  refine PySem.W.callWith_KW0 (first := [.ref a]) (h₀ := X.base) I.ok.mod.kin hm.kp hall ?_ hpl
  refine thn (hkw.run pos pins s1 σ H1 _ I1 q) fun ws s2 ⟨zs, H2, I2, rz, q2⟩ => ⟨I2.kIn, ?_⟩
  rw [hks]
  have hl := F.len _ _ _ _ q2
  cases rz with
  | nil => cases hl
  | @cons v u vs us rv rr =>
    cases rr with
    | cons _ _ => cases hl
    | nil =>
      refine wpAny_call (codeAny_mono (F.run X.A X.stack s2 H2 ⟨[.ref a], [(kw, u)]⟩ [.ref a, u] [.ref a, v] Q E0 hr I2.env0 (hb s2 _ _ I2.kIn) (.cons rfl (.cons rv .nil)) q2) fun r s' hq => ?_)
      cases r with
      | error e => exact False.elim hq
      | ok fl =>
        cases fl with
        | ret u => exact I2.after hq
        | next => exact False.elim hq
        | brk => exact False.elim hq
        | cont => exact False.elim hq
end
/-! ### Exact -/
theorem sm12 {i : Int} (h1 : 0 ≤ i) (h2 : i ≤ 1000000000000) : Sm 1000 i := by
  have e : (10 : Int) ^ 40 = 10000000000000000000000000000000000000000 := by decide
  exact (sm40 (x := i) (by omega) (by omega)).mono (by decide)
theorem eqv2 {a b c d : Int} (h : PyData.eqv (.tuple [.int a, .int b]) (.tuple [.int c, .int d]) = true) : a = c ∧ b = d := by
  simp [PyData.eqv, PyData.eqvAll] at h
  exact h
theorem both {R G : Prop} (f : R → G) (r : R) : G := f r
def ExAt (C : Addr) (H : Hp) (x : Addr) (s l w : Int) : Prop := ∃ dx p : Addr, H x = some (.ins C dx [("parts", .ref p)]) ∧ H p = some (.tup [.int s, .int l, .int w])
def Big (a b c : Int) : Prop := Good a b c ∧ a ≤ 10000000000000000000000000000000000000000 ∧ -10000000000000000000000000000000000000000 ≤ b ∧ b ≤ 10000000000000000000000000000000000000000 ∧ c ≤ 10000000000000000000000000000000000000000
theorem Big.sm {a b c : Int} (h : Big a b c) : Sm 133 a ∧ Sm 133 b ∧ Sm 133 c := by
  obtain ⟨g, h1, h2, h3, h4⟩ := h
  have e : (10 : Int) ^ 40 = 10000000000000000000000000000000000000000 := by decide
  have a0 : 0 ≤ a ∧ 0 ≤ c := by
    rcases g with g | g <;> omega
  exact ⟨sm40 (by omega) (by omega), sm40 (by omega) (by omega), sm40 (by omega) (by omega)⟩
def spInit (C : Addr) : Sp := fun vs H Q _ => ∃ (x dx : Addr) (a b c : Int), vs = [.ref x, .int a, .int b, .int c] ∧ H x = some (.ins C dx []) ∧ Big a b c ∧
  ∀ H' : Hp, But x H H' → ExAt C H' x (parts a b c).1 (parts a b c).2.1 (parts a b c).2.2 → Q .non H'
def spFloor (C : Addr) : Sp := fun vs H Q _ => ∃ (x : Addr) (s l w t : Int), vs = [.ref x, .int t] ∧ ExAt C H x s l w ∧ Good s l w ∧ Sm 400 s ∧ Sm 400 l ∧ Sm 400 w ∧ 1 ≤ t ∧ t ≤ 10000000000000000000000000000000000000000 ∧
  ∀ H', Same H H' → Q (.int (flo s l w t)) H'
def spSal0 : Sp := fun vs H Q _ => ∃ (p : Addr) (s l w sl h : Int), vs = [.ref p, .int sl, .int h] ∧ H p = some (.tup [.int s, .int l, .int w]) ∧ 0 ≤ sl ∧ Sm 1000 s ∧ Sm 1000 l ∧ Sm 1000 w ∧ Sm 1000 sl ∧ Sm 1000 h ∧ Q (.int (sal0 s l w sl h)) H
def spSal : Sp := fun vs H Q _ => ∃ (p : Addr) (s l w sl h : Int), vs = [.ref p, .int sl, .int h] ∧ H p = some (.tup [.int s, .int l, .int w]) ∧ Sm 1000 s ∧ Sm 1000 l ∧ Sm 1000 w ∧ Sm 1000 sl ∧ Sm 1000 h ∧ Q (.int (sal s l w sl h)) H
def spOrder (C : Addr) : Sp := fun vs H Q _ => ∃ (x y : Addr) (s l w s' l' w' : Int), vs = [.ref x, .ref y] ∧ ExAt C H x s l w ∧ ExAt C H y s' l' w' ∧ Sm 200 s ∧ Sm 200 l ∧ Sm 200 w ∧ Sm 200 s' ∧ Sm 200 l' ∧ Sm 200 w' ∧ Q (.int (ord s l w s' l' w')) H
def spEq (C : Addr) : Sp := fun vs H Q _ => ∃ (x y : Addr) (s l w s' l' w' : Int), vs = [.ref x, .ref y] ∧ ExAt C H x s l w ∧ ExAt C H y s' l' w' ∧ Q (.bl (decide ((s, l, w) = (s', l', w')))) H
/-- what isinstance asks of the class -/
structure IsC (K : PySem.W.Frag) (C : Addr) : Prop where
  ca : PySem.W.findIn K (.ref C) "__class__" = some (some (.builtin "object.__class__"))
  cn : PySem.W.specialIn K (.builtin "object.__class__") "__get__" = some (some (.builtin "getset_descriptor.__get__"))
  ct : PySem.W.takesIn K (.builtin "object.__class__") = some true
  cm : PySem.W.mroIn K C (.type "object") = some true
  is_ : PySem.W.kitOne K (.ref C) (.ref C) = some true
  nf : PySem.W.notFirst K C (.ref C) = true
theorem eqv3 {a b c d e f : Int} : PyData.eqv (.tuple [.int a, .int b, .int c]) (.tuple [.int d, .int e, .int f]) = decide ((a, b, c) = (d, e, f)) := by
  rw [Bool.eq_iff_iff]
  simp [PyData.eqv, PyData.eqvAll]
section
variable {P : Program} {w : World} {K : PySem.W.Frag} {mg : Str → Option Value} {base : Heap} {tP : Tok} {C : Addr}
abbrev s_Exact_init : Stmt := inClass (top 14) 0
theorem sc_Exact_init : FnScope ["self", "square", "line", "whole"] ["self", "square", "line", "whole"] (defScope s_Exact_init) := ⟨rfl, rfl, rfl, by decide +kernel, rfl, by decide +kernel, by decide +kernel⟩

theorem ok_init {f : Addr} {fd : FuncData} (F : Fun K "__init__" "Exact.__init__" s_Exact_init f fd) (T : Txt2 K mg tP C) (D_is_integer_within : Df P w K mg base 2 "is_integer_within" ["value", "least", "most"] spWithin) (D_simplest_equation : Df P w K mg base 4 "simplest_equation" ["square", "line", "whole"] spSimp) :
    FnOk P w K mg base CX0 5 f fd ["self", "square", "line", "whole"] (spInit C) := by
  refine F.ok sc_Exact_init (fun vs H Q E h => ?_) (fun cdv A outer s H vs Q E hr h => ?_)
  · obtain ⟨x, dx, a, b, c, rfl, _⟩ := h
    rfl
  · obtain ⟨x, dx, a, b, c, rfl, hx, hB, k⟩ := h
    refine ⟨_, (pss_cons (ps_if (pt_not (pt_val (pe_df D_is_integer_within (hr.mono (by decide)) (by rfl) (pa_cons (pv 1) (pa_cons pe_int (pa_cons (pe_glob (v := .int 10000000000000000000000000000000000000000) rfl T.mgP ⟨_, rfl⟩) pa_nil)))))) (pss_one ps_never) pss_nil)
      (pss_cons (ps_if (PW.pt (pw_or (pt_not (pt_val (pe_df D_is_integer_within (hr.mono (by decide)) (by rfl) (pa_cons (pv 2) (pa_cons (pe_un un_neg (pe_glob (v := .int 10000000000000000000000000000000000000000) rfl T.mgP ⟨_, rfl⟩)) (pa_cons (pe_glob (v := .int 10000000000000000000000000000000000000000) rfl T.mgP ⟨_, rfl⟩) pa_nil)))))) (pw_or1 (PW.pt (pw_and (pt_cmpR op_eq (pv 1) pe_int (nomark _)) (pw_and1 (pt_cmpR op_lt (pv 2) pe_int (nomark _)))))))) (pss_one ps_never) pss_nil)
      (pss_cons (ps_if (PW.pt (pw_or (pt_not (pt_val (pe_df D_is_integer_within (hr.mono (by decide)) (by rfl) (pa_cons (pv 3) (pa_cons pe_int (pa_cons (pe_glob (v := .int 10000000000000000000000000000000000000000) rfl T.mgP ⟨_, rfl⟩) pa_nil)))))) (pw_or1 (PW.pt (pw_and (pt_cmpR op_ne (pv 1) pe_int (nomark _)) (pw_and1 (pt_cmpR op_eq (pv 3) pe_int (nomark _)))))))) (pss_one ps_never) pss_nil)
      (pss_one (ps_fld (pv 0) (pe_df D_simplest_equation (hr.mono (by decide)) (by rfl) (pa_cons (pv 1) (pa_cons (pv 2) (pa_cons (pv 3) pa_nil)))) rfl))))), ?_⟩
    obtain ⟨sa, sb, sc⟩ := hB.sm
    obtain ⟨g, h1, h2, h3, h4⟩ := hB
    have a0 : 0 ≤ a ∧ 0 ≤ c := by
      rcases g with g | g <;> omega
    refine ⟨_, rfl, a, 0, _, rfl, a0.1, h1, true, rfl, iteF ?_⟩
    refine ⟨_, rfl, _, rfl, b, _, _, rfl, h2, h3, true, rfl, iteF ?_⟩
    refine both (fun rest => ⟨_, rfl, rfl, _, rfl, ite2 (fun e => ⟨_, rfl, _, _, rfl, rfl, _, rfl, ite2 (fun e2 => ?_) (fun _ => rest)⟩) (fun _ => iteF rest)⟩) ?_
    · have e3 : a = 0 := V.int.inj (of_decide_eq_true e)
      have e4 : b < 1 := of_decide_eq_true e2
      rcases g with g | g <;> omega
    refine ⟨_, rfl, c, 0, _, rfl, a0.2, h4, true, rfl, iteF ?_⟩
    refine both (fun rest => ⟨_, rfl, rfl, _, rfl, ite2 (fun e => ⟨_, rfl, rfl, _, rfl, ite2 (fun e2 => ?_) (fun _ => rest)⟩) (fun _ => iteF rest)⟩) ?_
    · have e3 : ¬ a = 0 := fun z => by
        have e5 : (!decide (V.int a = V.int 0)) = true := e
        rw [decide_eq_true (congrArg V.int z)] at e5
        cases e5
      have e4 : c = 0 := V.int.inj (of_decide_eq_true e2)
      rcases g with g | g <;> omega
    refine ⟨_, rfl, _, rfl, _, rfl, a, b, c, rfl, g, sa, sb, sc, fun H1 p sm np hp => ?_⟩
    have hx1 := sm _ _ hx
    have nxp : x ≠ p := ne_of hx1 hp (by intro z; cases z)
    refine ⟨_, rfl, x, C, dx, _, rfl, hx1, T.cl, T.nP, (by show 0 < 1000; decide), ?_⟩
    refine k _ ((But.of sm).trans But.upd) ⟨dx, p, upd_same, ?_⟩
    rw [upd_ne nxp.symm]
    exact hp
def spFloOf : Sp := fun vs H Q _ => ∃ (pp : Addr) (sq l w t : Int), vs = [.ref pp, .int t] ∧ H pp = some (.tup [.int sq, .int l, .int w]) ∧ Good sq l w ∧ Sm 400 sq ∧ Sm 400 l ∧ Sm 400 w ∧ 1 ≤ t ∧ t ≤ 10000000000000000000000000000000000000000 ∧ ∀ H', Same H H' → Q (.int (flo sq l w t)) H'
abbrev s_floor_of : Stmt := top 18
theorem sc_floor_of : FnScope ["parts", "times", "square", "line", "whole", "root"] ["parts", "times"] (defScope s_floor_of) := ⟨rfl, rfl, rfl, by decide +kernel, rfl, by decide +kernel, by decide +kernel⟩

theorem ok_floof {f : Addr} {fd : FuncData} (F : Fun K "floor_of" "floor_of" s_floor_of f fd) (D_square_root : Df P w K mg base 1 "square_root" ["number"] spRoot) (D_under_root : Df P w K mg base 1 "under_root" ["square", "line", "whole"] spUnder) :
    FnOk P w K mg base CX0 2 f fd ["parts", "times"] spFloOf := by
  refine F.ok sc_floor_of (fun vs H Q E h => ?_) (fun cdv A outer s H vs Q E hr h => ?_)
  · obtain ⟨pp, sq, l, w, t, rfl, _⟩ := h
    rfl
  · obtain ⟨pp, sq, l, w, t, rfl, hpp, hG, hs, hl, hw, t0, t1, k⟩ := h
    refine ⟨_, (pss_cons (ps_asg (pv 0) (pg_tup rfl (pgs_cons (pg_name (i := 2) sc_floor_of.nd rfl (.inl rfl)) (pgs_cons (pg_name (i := 3) sc_floor_of.nd rfl (.inl rfl)) (pgs_cons (pg_name (i := 4) sc_floor_of.nd rfl (.inl rfl)) pgs_nil)))))
      (pss_cons (ps_if (pt_cmpR op_eq (pv 2) pe_int (nomark _)) (pss_one (ps_ret (pe_op op_fdivW (pe_op op_mulX (pv 1) (pv 4)) (pv 3)))) pss_nil)
      (pss_cons (ps_set (i := 5) sc_floor_of.nd rfl (.inl rfl) (pe_df D_square_root (hr.mono (by decide)) (by rfl) (pa_cons (pe_op op_mulX (pe_op op_mulX (pv 1) (pv 1)) (pe_df D_under_root (hr.mono (by decide)) (by rfl) (pa_cons (pv 2) (pa_cons (pv 3) (pa_cons (pv 4) pa_nil))))) pa_nil)))
      (pss_one (ps_ret (pe_op op_fdivW (pe_op op_sub (pv 5) (pe_op op_mulX (pv 1) (pv 3))) (pe_op op_mul pe_int (pv 2)))))))), ?_⟩
    have e40 : (10 : Int) ^ 40 = 10000000000000000000000000000000000000000 := by decide
    have ts : Sm 133 t := sm40 (by omega) (by omega)
    unfold flo at k
    refine ⟨_, rfl, pp, _, rfl, SqT.of hpp, rfl, _, _, rfl, _, _, rfl, _, _, rfl, rfl, ?_⟩
    refine ⟨_, rfl, rfl, _, rfl, ite2 (fun e => ?_) (fun e => ?_)⟩
    · have s0 : sq = 0 := V.int.inj (of_decide_eq_true e)
      rw [if_pos s0] at k
      have l0 : 0 < l := by
        rcases hG with g | g <;> omega
      exact ⟨_, rfl, _, rfl, _, _, rfl, rfl, mx ts hw, _, rfl, _, _, rfl, rfl, dvw l0 hl, k _ (Same.refl _)⟩
    · have s0 : ¬ sq = 0 := fun z => e (decide_eq_true (congrArg V.int z))
      rw [if_neg s0] at k
      have g : 1 ≤ sq ∧ 1 ≤ w := by
        rcases hG with g | g
        · exact absurd g.1 s0
        · exact g
      have ip := inside_pos (b := l) g
      have hd : Sm 1300 (l * l + 4 * sq * w) := by
        have h4 : Sm 3 4 := by unfold Sm; decide
        have e1 : Sm (400 + 400) (l * l) := hl.mul hl
        have e2 : Sm (3 + 400 + 400) (4 * sq * w) := (h4.mul hs).mul hw
        exact (Sm.add (n := 803) (e1.mono (by decide)) (e2.mono (by decide))).mono (by decide)
      have tt : Sm (133 + 133) (t * t) := ts.mul ts
      refine ⟨_, rfl, _, rfl, _, _, rfl, rfl, mx ts ts, _, rfl, _, rfl, _, rfl, sq, l, w, rfl, hs.mono (by decide), hl.mono (by decide), hw.mono (by decide), _, _, rfl, rfl, mx tt hd, ?_⟩
      refine ⟨_, rfl, Int.mul_nonneg (Int.mul_nonneg (by omega) (by omega)) ip.2, (tt.mul hd).mono (by decide), fun H1 sm => ?_⟩
      have s2 : Sm 500 (2 * sq) := (Sm.mul (m := 2) (x := 2) (by unfold Sm; decide) hs).mono (by decide)
      refine ⟨_, rfl, _, rfl, _, rfl, _, _, rfl, rfl, mx ts hl, _, _, rfl, rfl, _, rfl, _, _, rfl, rfl, .inl ⟨by decide, by decide⟩, _, _, rfl, rfl, dvw (by omega) s2, ?_⟩
      exact k _ sm
abbrev s_Exact_floor : Stmt := inClass (top 14) 4
theorem sc_Exact_floor : FnScope ["self", "times"] ["self", "times"] (defScope s_Exact_floor) := ⟨rfl, rfl, rfl, by decide +kernel, rfl, by decide +kernel, by decide +kernel⟩

theorem ok_floor {f : Addr} {fd : FuncData} (F : Fun K "floor" "Exact.floor" s_Exact_floor f fd) (T : Txt2 K mg tP C) (D_is_integer_within : Df P w K mg base 2 "is_integer_within" ["value", "least", "most"] spWithin) (D_floor_of : Df P w K mg base 2 "floor_of" ["parts", "times"] spFloOf) :
    FnOk P w K mg base CX0 3 f fd ["self", "times"] (spFloor C) := by
  refine F.ok sc_Exact_floor (fun vs H Q E h => ?_) (fun cdv A outer s H vs Q E hr h => ?_)
  · obtain ⟨x, sq, l, w, t, rfl, _⟩ := h
    rfl
  · obtain ⟨x, sq, l, w, t, rfl, ⟨dx, pp, hx, hpp⟩, hG, hs, hl, hw, t0, t1, k⟩ := h
    refine ⟨_, (pss_cons (ps_if (pt_not (pt_val (pe_df D_is_integer_within (hr.mono (by decide)) (by rfl) (pa_cons (pv 1) (pa_cons pe_int (pa_cons (pe_glob (v := .int 10000000000000000000000000000000000000000) rfl T.mgP ⟨_, rfl⟩) pa_nil)))))) (pss_one ps_never) pss_nil)
      (pss_one (ps_ret (pe_df D_floor_of (hr.mono (by decide)) (by rfl) (pa_cons (pe_fld (pv 0) rfl) (pa_cons (pv 1) pa_nil)))))), ?_⟩
    refine ⟨_, rfl, t, 1, _, rfl, t0, t1, true, rfl, iteF ?_⟩
    exact ⟨_, rfl, x, C, dx, _, _, rfl, hx, T.cl, T.nP, rfl, _, rfl, pp, sq, l, w, t, rfl, hpp, hG, hs, hl, hw, t0, t1, k⟩
abbrev s_sign_along_line : Stmt := top 20
theorem sc_sign_along_line : FnScope ["parts", "slope", "height"] ["parts", "slope", "height"] (defScope s_sign_along_line) := ⟨rfl, rfl, rfl, by decide +kernel, rfl, by decide +kernel, by decide +kernel⟩

theorem ok_sal0 {f : Addr} {fd : FuncData} (F : Fun K "sign_along_line" "sign_along_line" s_sign_along_line f fd) (D_sign : Df P w K mg base 1 "sign" ["number"] spSign) (D_beside_fraction : Df P w K mg base 2 "beside_fraction" ["parts", "top", "bottom"] spBeside) : FnOk P w K mg base CX0 3 f fd ["parts", "slope", "height"] spSal0 := by
  refine F.ok sc_sign_along_line (fun vs H Q E h => ?_) (fun cdv A outer s H vs Q E hr h => ?_)
  · obtain ⟨p, sq, l, w, sl, h, rfl, _⟩ := h
    rfl
  · obtain ⟨p, sq, l, w, sl, h, rfl, hp, sl0, hs, hl, hw, hsl, hh, k⟩ := h
    refine ⟨_, (pss_cons (ps_if (pt_cmpR op_lt (pv 1) pe_int (nomark _)) (pss_one ps_never) pss_nil)
      (pss_cons (ps_if (PW.pt (pw_or (pt_cmpR op_eq (pv 1) pe_int (nomark _)) (pw_or1 (pt_cmpR op_lt (pv 2) pe_int (nomark _))))) (pss_one (ps_ret (pe_df D_sign (hr.mono (by decide)) (by rfl) (pa_cons (pe_un un_neg (pv 2)) pa_nil)))) pss_nil)
      (pss_one (ps_ret (pe_df D_beside_fraction (hr.mono (by decide)) (by rfl) (pa_cons (pv 0) (pa_cons (pv 2) (pa_cons (pv 1) pa_nil)))))))), ?_⟩
    unfold sal0 at k
    refine ⟨_, rfl, _, _, rfl, rfl, _, rfl, ite2 (fun e => ?_) (fun _ => ?_)⟩
    · have e0 : sl < 0 := of_decide_eq_true e
      omega
    refine ⟨_, rfl, rfl, _, rfl, ite2 (fun e => iteT ?_) (fun e => ?_)⟩
    · rw [if_pos (.inl (V.int.inj (of_decide_eq_true e)))] at k
      exact ⟨_, rfl, _, rfl, _, rfl, k⟩
    · have e0 : ¬ sl = 0 := fun z => e (decide_eq_true (congrArg V.int z))
      refine ⟨_, rfl, _, _, rfl, rfl, _, rfl, ite2 (fun e2 => ?_) (fun e2 => ?_)⟩
      · rw [if_pos (.inr (of_decide_eq_true e2))] at k
        exact ⟨_, rfl, _, rfl, _, rfl, k⟩
      · have e3 : ¬ h < 0 := fun z => e2 (decide_eq_true z)
        rw [if_neg (fun z => z.elim e0 e3)] at k
        exact ⟨_, rfl, _, rfl, _, rfl, p, sq, l, w, h, sl, rfl, hp, hs, hl, hw, hh, hsl, k⟩
theorem ok_sal {f : Addr} {fd : FuncData} (F : Fun K "sign_along_line" "sign_along_line" s_sign_along_line f fd) (D_sign : Df P w K mg base 1 "sign" ["number"] spSign) (D_beside_fraction : Df P w K mg base 2 "beside_fraction" ["parts", "top", "bottom"] spBeside) (D_sign_along_line : Df P w K mg base 3 "sign_along_line" ["parts", "slope", "height"] spSal0) : FnOk P w K mg base CX0 4 f fd ["parts", "slope", "height"] spSal := by
  refine F.ok sc_sign_along_line (fun vs H Q E h => ?_) (fun cdv A outer s H vs Q E hr h => ?_)
  · obtain ⟨p, sq, l, w, sl, h, rfl, _⟩ := h
    rfl
  · obtain ⟨p, sq, l, w, sl, h, rfl, hp, hs, hl, hw, hsl, hh, k⟩ := h
    refine ⟨_, (pss_cons (ps_if (pt_cmpR op_lt (pv 1) pe_int (nomark _)) (pss_one (ps_ret (pe_un un_neg (pe_df D_sign_along_line (hr.mono (by decide)) (by rfl) (pa_cons (pv 0) (pa_cons (pe_un un_neg (pv 1)) (pa_cons (pe_un un_neg (pv 2)) pa_nil))))))) pss_nil)
      (pss_cons (ps_if (PW.pt (pw_or (pt_cmpR op_eq (pv 1) pe_int (nomark _)) (pw_or1 (pt_cmpR op_lt (pv 2) pe_int (nomark _))))) (pss_one (ps_ret (pe_df D_sign (hr.mono (by decide)) (by rfl) (pa_cons (pe_un un_neg (pv 2)) pa_nil)))) pss_nil)
      (pss_one (ps_ret (pe_df D_beside_fraction (hr.mono (by decide)) (by rfl) (pa_cons (pv 0) (pa_cons (pv 2) (pa_cons (pv 1) pa_nil)))))))), ?_⟩
    unfold sal at k
    refine ⟨_, rfl, _, _, rfl, rfl, _, rfl, ite2 (fun e => ?_) (fun e => ?_)⟩
    · have e0 : sl < 0 := of_decide_eq_true e
      rw [if_pos e0] at k
      exact ⟨_, rfl, _, rfl, _, rfl, _, rfl, _, rfl, p, sq, l, w, -sl, -h, rfl, hp, by omega, hs, hl, hw, hsl.neg, hh.neg, _, rfl, k⟩
    have e0 : ¬ sl < 0 := fun z => e (decide_eq_true z)
    rw [if_neg e0] at k
    unfold sal0 at k
    refine ⟨_, rfl, rfl, _, rfl, ite2 (fun e => iteT ?_) (fun e => ?_)⟩
    · rw [if_pos (.inl (V.int.inj (of_decide_eq_true e)))] at k
      exact ⟨_, rfl, _, rfl, _, rfl, k⟩
    · have e0 : ¬ sl = 0 := fun z => e (decide_eq_true (congrArg V.int z))
      refine ⟨_, rfl, _, _, rfl, rfl, _, rfl, ite2 (fun e2 => ?_) (fun e2 => ?_)⟩
      · rw [if_pos (.inr (of_decide_eq_true e2))] at k
        exact ⟨_, rfl, _, rfl, _, rfl, k⟩
      · have e3 : ¬ h < 0 := fun z => e2 (decide_eq_true z)
        rw [if_neg (fun z => z.elim e0 e3)] at k
        exact ⟨_, rfl, _, rfl, _, rfl, p, sq, l, w, h, sl, rfl, hp, hs, hl, hw, hh, hsl, k⟩
abbrev s_Exact_order : Stmt := inClass (top 14) 5
theorem sc_Exact_order : FnScope ["self", "other", "square", "line", "whole", "other_square", "other_line", "other_whole", "slope", "height"] ["self", "other"] (defScope s_Exact_order) := ⟨rfl, rfl, rfl, by decide +kernel, rfl, by decide +kernel, by decide +kernel⟩

theorem ok_order {f : Addr} {fd : FuncData} (F : Fun K "order" "Exact.order" s_Exact_order f fd) (T : Txt2 K mg tP C) (D_sign_along_line : Df P w K mg base 4 "sign_along_line" ["parts", "slope", "height"] spSal) (D_beside_fraction : Df P w K mg base 2 "beside_fraction" ["parts", "top", "bottom"] spBeside) : FnOk P w K mg base CX0 5 f fd ["self", "other"] (spOrder C) := by
  refine F.ok sc_Exact_order (fun vs H Q E h => ?_) (fun cdv A outer s H vs Q E hr h => ?_)
  · obtain ⟨x, y, a, b, c, d, e, f, rfl, _⟩ := h
    rfl
  · obtain ⟨x, y, sq, l, w, sq', l', w', rfl, ⟨dx, pp, hx, hpp⟩, ⟨dy, qq, hy, hqq⟩, hs, hl, hw, hs', hl', hw', k⟩ := h
    refine ⟨_, (pss_cons (ps_asg (pe_fld (pv 0) rfl) (pg_tup rfl (pgs_cons (pg_name (i := 2) sc_Exact_order.nd rfl (.inl rfl)) (pgs_cons (pg_name (i := 3) sc_Exact_order.nd rfl (.inl rfl)) (pgs_cons (pg_name (i := 4) sc_Exact_order.nd rfl (.inl rfl)) pgs_nil)))))
      (pss_cons (ps_asg (pe_fld (pv 1) rfl) (pg_tup rfl (pgs_cons (pg_name (i := 5) sc_Exact_order.nd rfl (.inl rfl)) (pgs_cons (pg_name (i := 6) sc_Exact_order.nd rfl (.inl rfl)) (pgs_cons (pg_name (i := 7) sc_Exact_order.nd rfl (.inl rfl)) pgs_nil)))))
      (pss_cons (ps_if (pt_cmpR op_eq (pv 5) pe_int (nomark _)) (pss_one (ps_ret (pe_df D_beside_fraction (hr.mono (by decide)) (by rfl) (pa_cons (pe_fld (pv 0) rfl) (pa_cons (pv 7) (pa_cons (pv 6) pa_nil)))))) pss_nil)
      (pss_cons (ps_set (i := 8) sc_Exact_order.nd rfl (.inl rfl) (pe_op op_sub (pe_op op_mulX (pv 3) (pv 5)) (pe_op op_mulX (pv 6) (pv 2))))
      (pss_cons (ps_set (i := 9) sc_Exact_order.nd rfl (.inl rfl) (pe_op op_sub (pe_op op_mulX (pv 4) (pv 5)) (pe_op op_mulX (pv 7) (pv 2))))
      (pss_one (ps_ret (pe_un un_neg (pe_df D_sign_along_line (hr.mono (by decide)) (by rfl) (pa_cons (pe_fld (pv 1) rfl) (pa_cons (pv 8) (pa_cons (pv 9) pa_nil)))))))))))), ?_⟩
    unfold ord at k
    refine ⟨_, rfl, x, C, dx, _, _, rfl, hx, T.cl, T.nP, rfl, pp, _, rfl, SqT.of hpp, rfl, _, _, rfl, _, _, rfl, _, _, rfl, rfl, ?_⟩
    refine ⟨_, rfl, y, C, dy, _, _, rfl, hy, T.cl, T.nP, rfl, qq, _, rfl, SqT.of hqq, rfl, _, _, rfl, _, _, rfl, _, _, rfl, rfl, ?_⟩
    have up : ∀ {z : Int}, Sm 200 z → Sm 1000 z := fun h => h.mono (by decide)
    refine ⟨_, rfl, rfl, _, rfl, ite2 (fun e => ?_) (fun e => ?_)⟩
    · rw [if_pos (V.int.inj (of_decide_eq_true e))] at k
      exact ⟨_, rfl, x, C, dx, _, _, rfl, hx, T.cl, T.nP, rfl, _, rfl, _, rfl, pp, sq, l, w, w', l', rfl, hpp, up hs, up hl, up hw, up hw', up hl', k⟩
    · rw [if_neg (fun z => e (decide_eq_true (congrArg V.int z)))] at k
      refine ⟨_, rfl, _, rfl, _, _, rfl, rfl, mx hl hs', _, rfl, _, rfl, _, _, rfl, rfl, mx hl' hs, _, _, rfl, rfl, ?_⟩
      refine ⟨_, rfl, _, rfl, _, _, rfl, rfl, mx hw hs', _, rfl, _, rfl, _, _, rfl, rfl, mx hw' hs, _, _, rfl, rfl, ?_⟩
      refine ⟨_, rfl, y, C, dy, _, _, rfl, hy, T.cl, T.nP, rfl, _, rfl, _, rfl, qq, sq', l', w', _, _, rfl, hqq, up hs', up hl', up hw', ((hl.mul hs').sub (hl'.mul hs)).mono (by decide), ((hw.mul hs').sub (hw'.mul hs)).mono (by decide), _, rfl, k⟩
abbrev s_Exact_eq : Stmt := inClass (top 14) 6
theorem sc_Exact_eq : FnScope ["self", "other"] ["self", "other"] (defScope s_Exact_eq) := ⟨rfl, rfl, rfl, by decide +kernel, rfl, by decide +kernel, by decide +kernel⟩

theorem ok_eq {f : Addr} {fd : FuncData} (F : Fun K "__eq__" "Exact.__eq__" s_Exact_eq f fd) (T : Txt2 K mg tP C) (I : IsC K C) : FnOk P w K mg base CX0 1 f fd ["self", "other"] (spEq C) := by
  refine F.ok sc_Exact_eq (fun vs H Q E h => ?_) (fun cdv A outer s H vs Q E hr h => ?_)
  · obtain ⟨x, y, a, b, c, d, e, f, rfl, _⟩ := h
    rfl
  · obtain ⟨x, y, sq, l, w, sq', l', w', rfl, ⟨dx, pp, hx, hpp⟩, ⟨dy, qq, hy, hqq⟩, k⟩ := h
    refine ⟨_, (pss_one (ps_ret (pe_and (pe_callB call_isi (by rfl) T.isinstance (by decide +kernel) (pa_cons (pv 1) (pa_cons (pe_glob (v := .ref C) rfl T.mgC rfl) pa_nil))) (pe_one (pe_cmpR (op_eqD hr.units) (pe_fld (pv 0) rfl) (pe_fld (pv 1) rfl) (nomark _)))))), ?_⟩
    refine ⟨_, rfl, _, _, _, _, true, rfl, .own C, .base (.ins hy T.cl I.ca I.cn I.ct I.cm), I.is_, true, rfl, iteT ?_⟩
    refine ⟨_, rfl, x, C, dx, _, _, rfl, hx, T.cl, T.nP, rfl, _, rfl, y, C, dy, _, _, rfl, hy, T.cl, T.nP, rfl, ?_⟩
    refine ⟨_, _, .tup (SqT.of hpp) (.cons (.int _) (.cons (.int _) (.cons (.int _) .nil))), .tup (SqT.of hqq) (.cons (.int _) (.cons (.int _) (.cons (.int _) .nil))), rfl, rfl, ?_⟩
    rw [eqv3]
    exact k
end
end RL

namespace RL
open PySem L2
theorem sm_lt {n : Nat} {x : Int} (h0 : 0 ≤ x) (h : x < 2 ^ n) : Sm n x := by
  unfold Sm
  have e : ((2 ^ n : Nat) : Int) = 2 ^ n := by rw [Int.natCast_pow]; rfl
  omega
theorem div_pos {b g : Int} (hb : 0 < b) (d : g ∣ b) (hg : 0 < g) : 1 ≤ b / g := by
  have e := ex_mul d hg
  rcases Int.lt_or_le 0 (b / g) with z | z
  · omega
  · have := Int.mul_nonpos_of_nonneg_of_nonpos (Int.le_of_lt hg) z
    omega
theorem div_div {a g : Int} (ha : 0 < a) (d : g ∣ a) (hg : 0 < g) : a / (a / g) = g := by
  have e := ex_mul d hg
  have p := div_pos ha d hg
  generalize a / g = q at *
  subst e
  exact Int.mul_ediv_cancel _ (by omega)
def spNormal : Sp := fun vs H Q _ => ∃ a b c : Int, vs = [.int a, .int b, .int c] ∧ Good a b c ∧ Sm 133 a ∧ Sm 133 b ∧ Sm 133 c ∧
  ∀ H' p, Same H H' → H' p = some (.tup [.int (parts a b c).1, .int (parts a b c).2.1, .int (parts a b c).2.2]) → Q (.ref p) H'
def spSide : Sp := fun vs H Q _ => ∃ (p q : Addr) (a b c x y : Int), vs = [.ref p, .ref q] ∧ H p = some (.tup [.int a, .int b, .int c]) ∧ H q = some (.tup [.int x, .int y]) ∧ Sm 1000 a ∧ Sm 1000 b ∧ Sm 1000 c ∧ Sm 1000 x ∧ Sm 1000 y ∧ Q (.int (side a b c x y)) H
def spSmall : Sp := fun vs H Q _ => ∃ c : Addr, vs = [.ref c] ∧ CupAt c H ∧ ∀ H' p a b d, But c H H' → CupAt c H' → H' p = some (.tup [.int a, .int b, .int d]) → Tiny a b d → Q (.ref p) H'
def spFigures : Sp := fun vs H Q _ => ∃ (p : Addr) (a b c t : Int), vs = [.ref p, .int t] ∧ H p = some (.tup [.int a, .int b, .int c]) ∧ Good a b c ∧ Sm 400 a ∧ Sm 400 b ∧ Sm 400 c ∧ 1 ≤ t ∧ Sm 400 t ∧ ∀ H', Same H H' → Q (.int (flo a b c t)) H'
def spDue : Sp := fun vs H Q _ => ∃ (p q : Addr) (a b c a' b' c' : Int), vs = [.ref p, .ref q] ∧ H p = some (.tup [.int a, .int b, .int c]) ∧ H q = some (.tup [.int a', .int b', .int c']) ∧ Big a b c ∧ Big a' b' c' ∧ ∀ H', Same H H' → Q (.int (dueV a b c a' b' c')) H'
def spThree : Sp := fun vs H Q _ => ∃ c : Addr, vs = [.ref c] ∧ CupAt c H ∧ ∀ H' p a b d, But c H H' → CupAt c H' → H' p = some (.tup [.int a, .int b, .int d]) → Big a b d → Q (.ref p) H'
theorem dueAt_cons {a b c a' b' c' : Int} {n : Nat} {r : List Nat} : dueAt a b c a' b' c' (n :: r) = if flo a b c (10 ^ n) = flo a' b' c' (10 ^ n) then dueAt a b c a' b' c' r else if flo a b c (10 ^ n) < flo a' b' c' (10 ^ n) then -1 else 1 := rfl
section
variable {P : Program} {w : World} {K : PySem.W.Frag} {mg : Str → Option Value} {base : Heap} {tP : Tok} {C : Addr}
theorem But.tup {c p : Addr} {xs : List V} {H H' : Hp} (b : But c H H') (hc : CupAt c H) (h : H p = some (.tup xs)) : H' p = some (.tup xs) := by
  obtain ⟨x, y, e, _⟩ := hc
  exact b _ _ (ne_of h e (by intro z; cases z)) h
abbrev s_law_side : Stmt := top 30
theorem sc_law_side : FnScope ["_law_three_here", "_law_pair_here", "_law_a", "_law_b", "_law_c", "_law_x", "_law_y", "_law_worth"] ["_law_three_here", "_law_pair_here"] (defScope s_law_side) := ⟨rfl, rfl, rfl, by decide +kernel, rfl, by decide +kernel, by decide +kernel⟩

theorem ok_side {f : Addr} {fd : FuncData} (F : Fun K "_law_side" "_law_side" s_law_side f fd) : FnOk P w K mg base CX0 1 f fd ["_law_three_here", "_law_pair_here"] spSide := by
  refine F.ok sc_law_side (fun vs H Q E h => ?_) (fun cdv A outer s H vs Q E hr h => ?_)
  · obtain ⟨p, q, a, b, c, x, y, rfl, _⟩ := h
    rfl
  · obtain ⟨p, q, a, b, c, x, y, rfl, hp, hq, ha, hb, hc, hx, hy, k⟩ := h
    refine ⟨_, (pss_cons (ps_asg (pv 0) (pg_tup rfl (pgs_cons (pg_name (i := 2) sc_law_side.nd rfl (.inl rfl)) (pgs_cons (pg_name (i := 3) sc_law_side.nd rfl (.inl rfl)) (pgs_cons (pg_name (i := 4) sc_law_side.nd rfl (.inl rfl)) pgs_nil)))))
      (pss_cons (ps_asg (pv 1) (pg_tup rfl (pgs_cons (pg_name (i := 5) sc_law_side.nd rfl (.inl rfl)) (pgs_cons (pg_name (i := 6) sc_law_side.nd rfl (.inl rfl)) pgs_nil))))
      (pss_cons (ps_if (pt_cmpR op_eq (pv 6) pe_int (nomark _)) (pss_one (ps_ret (pe_un un_neg pe_int))) pss_nil)
      (pss_cons (ps_set (i := 7) sc_law_side.nd rfl (.inl rfl) (pe_op op_sub (pe_op op_add (pe_op op_mulX (pe_op op_mulX (pv 2) (pv 5)) (pv 5)) (pe_op op_mulX (pe_op op_mulX (pv 3) (pv 5)) (pv 6))) (pe_op op_mulX (pe_op op_mulX (pv 4) (pv 6)) (pv 6))))
      (pss_one (ps_ret (pe_ifExp (pt_cmpR op_lt (pv 7) pe_int (nomark _)) pe_int (pe_ifExp (pt_cmpR op_gt (pv 7) pe_int (nomark _)) (pe_un un_neg pe_int) pe_int)))))))), ?_⟩
    unfold side at k
    refine ⟨_, rfl, p, _, rfl, SqT.of hp, rfl, _, _, rfl, _, _, rfl, _, _, rfl, rfl, ?_⟩
    refine ⟨_, rfl, q, _, rfl, SqT.of hq, rfl, _, _, rfl, _, _, rfl, rfl, ?_⟩
    refine ⟨_, rfl, rfl, _, rfl, ite2 (fun e => ?_) (fun e => ?_)⟩
    · rw [if_pos (V.int.inj (of_decide_eq_true e))] at k
      exact ⟨1, rfl, k⟩
    · rw [if_neg (fun z => e (decide_eq_true (congrArg V.int z)))] at k
      refine ⟨_, rfl, _, rfl, _, _, rfl, rfl, mx ha hx, _, rfl, _, _, rfl, rfl, mx (ha.mul hx) hx, _, rfl, _, rfl, _, _, rfl, rfl, mx hb hx, _, rfl, _, _, rfl, rfl, mx (hb.mul hx) hy, _, _, rfl, rfl, _, rfl, _, rfl, _, _, rfl, rfl, mx hc hy, _, rfl, _, _, rfl, rfl, mx (hc.mul hy) hy, _, _, rfl, rfl, ?_⟩
      unfold sg at k
      refine ⟨_, rfl, _, _, rfl, rfl, _, rfl, ite2 (fun e => ?_) (fun e => ?_)⟩
      · have e0 : a * x * x + b * x * y - c * y * y < 0 := of_decide_eq_true e
        rw [if_pos (by omega)] at k
        exact k
      · have e0 : ¬ a * x * x + b * x * y - c * y * y < 0 := fun z => e (decide_eq_true z)
        rw [if_neg (by omega)] at k
        refine ⟨_, rfl, _, _, rfl, rfl, _, rfl, ite2 (fun e => ?_) (fun e => ?_)⟩
        · have e1 : 0 < a * x * x + b * x * y - c * y * y := of_decide_eq_true e
          rw [if_pos (by omega)] at k
          exact ⟨1, rfl, k⟩
        · have e1 : ¬ 0 < a * x * x + b * x * y - c * y * y := fun z => e (decide_eq_true z)
          rw [if_neg (by omega)] at k
          exact k
abbrev s_law_normal : Stmt := top 29
theorem sc_law_normal : FnScope ["_law_a", "_law_b", "_law_c", "_law_found", "_law_inside", "_law_root_here", "_law_by"] ["_law_a", "_law_b", "_law_c"] (defScope s_law_normal) := ⟨rfl, rfl, rfl, by decide +kernel, rfl, by decide +kernel, by decide +kernel⟩

theorem ok_normal {f : Addr} {fd : FuncData} (F : Fun K "_law_normal" "_law_normal" s_law_normal f fd) (T : Txt K mg) (D_law_pair : Df P w K mg base 1 "_law_pair" ["_law_top", "_law_bottom"] spPair) (D_law_root : Df P w K mg base 1 "_law_root" ["_law_worth"] spRoot) : FnOk P w K mg base CX0 2 f fd ["_law_a", "_law_b", "_law_c"] spNormal := by
  refine F.ok sc_law_normal (fun vs H Q E h => ?_) (fun cdv A outer s H vs Q E hr h => ?_)
  · obtain ⟨a, b, c, rfl, _⟩ := h
    rfl
  · obtain ⟨a, b, c, rfl, hG, ha, hb, hc, k⟩ := h
    refine ⟨_, (pss_cons (ps_if (pt_cmpR op_eq (pv 0) pe_int (nomark _)) (pss_cons (ps_set (i := 3) sc_law_normal.nd rfl (.inl rfl) (pe_df D_law_pair (hr.mono (by decide)) (by rfl) (pa_cons (pv 2) (pa_cons (pv 1) pa_nil))))
      (pss_one (ps_ret (pe_tup (pa_cons pe_int (pa_cons (pe_ix ix_tup (pv 3) pe_int (fun _ _ => rfl)) (pa_cons (pe_ix ix_tup (pv 3) pe_int (fun _ _ => rfl)) pa_nil))))))) pss_nil)
      (pss_cons (ps_set (i := 4) sc_law_normal.nd rfl (.inl rfl) (pe_op op_add (pe_op op_mulX (pv 1) (pv 1)) (pe_op op_mulX (pe_op op_mul pe_int (pv 0)) (pv 2))))
      (pss_cons (ps_set (i := 5) sc_law_normal.nd rfl (.inl rfl) (pe_df D_law_root (hr.mono (by decide)) (by rfl) (pa_cons (pv 4) pa_nil)))
      (pss_cons (ps_if (pt_cmpR op_eq (pe_op op_mulX (pv 5) (pv 5)) (pv 4) (nomark _)) (pss_cons (ps_set (i := 3) sc_law_normal.nd rfl (.inl rfl) (pe_df D_law_pair (hr.mono (by decide)) (by rfl) (pa_cons (pe_op op_sub (pv 5) (pv 1)) (pa_cons (pe_op op_mul pe_int (pv 0)) pa_nil))))
      (pss_one (ps_ret (pe_tup (pa_cons pe_int (pa_cons (pe_ix ix_tup (pv 3) pe_int (fun _ _ => rfl)) (pa_cons (pe_ix ix_tup (pv 3) pe_int (fun _ _ => rfl)) pa_nil))))))) pss_nil)
      (pss_cons (ps_set (i := 6) sc_law_normal.nd rfl (.inl rfl) (pe_ifExp (pt_cmpR op_ne (pv 1) pe_int (nomark _)) (pe_op op_fdivW (pv 0) (pe_ix ix_tup (pe_df D_law_pair (hr.mono (by decide)) (by rfl) (pa_cons (pv 0) (pa_cons (pe_callB call_abs (by rfl) T.abs (by decide +kernel) (pa_cons (pv 1) pa_nil)) pa_nil))) pe_int (fun _ _ => rfl))) (pv 0)))
      (pss_cons (ps_set (i := 6) sc_law_normal.nd rfl (.inl rfl) (pe_op op_fdivW (pv 6) (pe_ix ix_tup (pe_df D_law_pair (hr.mono (by decide)) (by rfl) (pa_cons (pv 6) (pa_cons (pv 2) pa_nil))) pe_int (fun _ _ => rfl))))
      (pss_one (ps_ret (pe_tup (pa_cons (pe_op op_fdivW (pv 0) (pv 6)) (pa_cons (pe_op op_fdivW (pv 1) (pv 6)) (pa_cons (pe_op op_fdivW (pv 2) (pv 6)) pa_nil)))))))))))), ?_⟩
    unfold parts at k
    refine ⟨_, rfl, rfl, _, rfl, ite2 (fun e => ?_) (fun e => ?_)⟩
    · have a0 : a = 0 := V.int.inj (of_decide_eq_true e)
      rw [if_pos a0] at k
      have b0 : 1 ≤ b ∧ 0 ≤ c := by
        rcases hG with z | z
        · exact z.2
        · omega
      refine ⟨_, rfl, _, rfl, c, b, rfl, b0.2, by omega, hc.mono (by decide), hb.mono (by decide), fun H1 p sm np hp => ?_⟩
      exact ⟨_, rfl, p, _, _, _, rfl, rfl, SqT.of hp, atI_nat (j := 1) rfl, _, rfl, p, _, _, _, rfl, rfl, SqT.of hp, atI_nat (j := 0) rfl, (by show 3 ≤ sizeLine; decide), fun q hq => k _ q (sm.trans (same_upd hq)) upd_same⟩
    · have a0 : ¬ a = 0 := fun z => e (decide_eq_true (congrArg V.int z))
      rw [if_neg a0] at k
      have hg : 1 ≤ a ∧ 1 ≤ c := by
        rcases hG with z | z
        · exact absurd z.1 a0
        · exact z
      have ip := inside_pos (b := b) hg
      have hd : Sm 270 (b * b + 4 * a * c) := by
        have h4 : Sm 3 4 := by unfold Sm; decide
        have e1 : Sm (133 + 133) (b * b) := hb.mul hb
        have e2 : Sm (3 + 133 + 133) (4 * a * c) := (h4.mul ha).mul hc
        exact (Sm.add (n := 269) (e1.mono (by decide)) (e2.mono (by decide)))
      have hr0 : Sm 135 (rt (b * b + 4 * a * c)) := rt_sm (n := 135) ip.2 hd
      have h4 : Sm 136 (4 * a) := Sm.mul (m := 3) (n := 133) (x := 4) (by unfold Sm; decide) ha
      refine ⟨_, rfl, _, rfl, _, _, rfl, rfl, mx hb hb, _, rfl, _, _, rfl, rfl, .inl ⟨by decide, by decide⟩, _, rfl, _, _, rfl, rfl, mx h4 hc, _, _, rfl, rfl, ?_⟩
      refine ⟨_, rfl, _, rfl, ip.2, hd.mono (by decide), fun H1 sm => ?_⟩
      refine ⟨_, rfl, _, rfl, _, _, rfl, rfl, mx hr0 hr0, _, rfl, rfl, _, rfl, ite2 (fun e2 => ?_) (fun e2 => ?_)⟩
      · have e3 : rt (b * b + 4 * a * c) * rt (b * b + 4 * a * c) = b * b + 4 * a * c := V.int.inj (of_decide_eq_true e2)
        rw [if_pos e3] at k
        have rg := rt_gt ip.1 (rt_is ip.2).1 e3.symm
        refine ⟨_, rfl, _, rfl, _, _, rfl, rfl, _, rfl, _, _, rfl, rfl, .inl ⟨by decide, by decide⟩, _, _, rfl, by omega, by omega, ?_, ?_, fun H2 p sm2 np hp => ?_⟩
        · exact (hr0.sub (hb.mono (by decide))).mono (by decide)
        · exact (Sm.mul (m := 2) (n := 133) (x := 2) (by unfold Sm; decide) ha).mono (by decide)
        · exact ⟨_, rfl, p, _, _, _, rfl, rfl, SqT.of hp, atI_nat (j := 1) rfl, _, rfl, p, _, _, _, rfl, rfl, SqT.of hp, atI_nat (j := 0) rfl, (by show 3 ≤ sizeLine; decide), fun q hq => k _ q ((sm.trans sm2).trans (same_upd hq)) upd_same⟩
      · have e3 : ¬ rt (b * b + 4 * a * c) * rt (b * b + 4 * a * c) = b * b + 4 * a * c := fun z => e2 (decide_eq_true (congrArg V.int z))
        rw [if_neg e3] at k
        have g1 : 0 < gc a b := gc_pos (.inl (by omega))
        have g1a : gc a b ≤ a := Int.le_of_dvd (by omega) (gc_dvd1 _ _)
        have g1s : Sm 133 (gc a b) := ha.of (by omega) g1a
        have g0 : 0 < gc (gc a b) c := gc_pos (.inr (by omega))
        have gb : gc (gc a b) c ≤ c := Int.le_of_dvd (by omega) (gc_dvd2 _ _)
        have gs : Sm 133 (gc (gc a b) c) := hc.of (by omega) gb
        refine ⟨_, rfl, rfl, _, rfl, ite2 (fun e4 => ?_) (fun e4 => ?_)⟩
        · have b0 : ¬ b = 0 := fun z => by
            have e5 : (!decide (V.int b = V.int 0)) = true := e4
            rw [decide_eq_true (congrArg V.int z)] at e5
            cases e5
          have ab : Sm 133 (if b < 0 then -b else b) := by
            split
            · exact hb.neg
            · exact hb
          refine ⟨_, rfl, _, rfl, _, rfl, _, rfl, a, _, rfl, by omega, by split <;> omega, ha.mono (by decide), ab.mono (by decide), fun H2 p sm2 np hp => ?_⟩
          rw [gc_abs2] at hp
          have q1 : 0 < a / gc a b := div_pos (by omega) (gc_dvd1 _ _) g1
          refine ⟨p, _, _, _, rfl, rfl, SqT.of hp, atI_nat (j := 0) rfl, _, _, rfl, rfl, dvw q1 (ha.div g1), ?_⟩
          have ed : a / (a / gc a b) = gc a b := div_div (by omega) (gc_dvd1 _ _) g1
          dsimp only
          rw [ed]
          refine ⟨_, rfl, _, rfl, _, rfl, gc a b, c, rfl, by omega, by omega, g1s.mono (by decide), hc.mono (by decide), fun H3 p2 sm3 np2 hp2 => ?_⟩
          have q2 : 0 < gc a b / gc (gc a b) c := div_pos g1 (gc_dvd1 _ _) g0
          refine ⟨p2, _, _, _, rfl, rfl, SqT.of hp2, atI_nat (j := 0) rfl, _, _, rfl, rfl, dvw q2 (g1s.div g0), ?_⟩
          have ed2 : gc a b / (gc a b / gc (gc a b) c) = gc (gc a b) c := div_div g1 (gc_dvd1 _ _) g0
          dsimp only
          rw [ed2]
          refine ⟨_, rfl, _, rfl, _, _, rfl, rfl, dvw g0 gs, _, rfl, _, rfl, _, _, rfl, rfl, dvw g0 gs, _, rfl, _, rfl, _, _, rfl, rfl, dvw g0 gs, (by show 3 ≤ sizeLine; decide), fun q hq => ?_⟩
          exact k _ q (((sm.trans sm2).trans sm3).trans (same_upd hq)) upd_same
        · have b0 : b = 0 := by
            refine Classical.byContradiction fun z => e4 ?_
            show (!decide (V.int b = V.int 0)) = true
            rw [decide_eq_false (fun y => z (V.int.inj y))]
            rfl
          subst b0
          have ed : gc a 0 = a := gc_zero (by omega)
          rw [ed] at k g0 gs g1 g1s
          refine ⟨_, rfl, ?_⟩
          refine ⟨_, rfl, _, rfl, _, rfl, a, c, rfl, by omega, by omega, g1s.mono (by decide), hc.mono (by decide), fun H3 p2 sm3 np2 hp2 => ?_⟩
          have q2 : 0 < a / gc (a) c := div_pos g1 (gc_dvd1 _ _) g0
          refine ⟨p2, _, _, _, rfl, rfl, SqT.of hp2, atI_nat (j := 0) rfl, _, _, rfl, rfl, dvw q2 (g1s.div g0), ?_⟩
          have ed2 : a / (a / gc (a) c) = gc (a) c := div_div g1 (gc_dvd1 _ _) g0
          dsimp only
          rw [ed2]
          refine ⟨_, rfl, _, rfl, _, _, rfl, rfl, dvw g0 gs, _, rfl, _, rfl, _, _, rfl, rfl, dvw g0 gs, _, rfl, _, rfl, _, _, rfl, rfl, dvw g0 gs, (by show 3 ≤ sizeLine; decide), fun q hq => ?_⟩
          exact k _ q ((sm.trans sm3).trans (same_upd hq)) upd_same
abbrev s_law_three : Stmt := top 31
theorem sc_law_three : FnScope ["_law_cup_here", "_law_way", "_law_wide", "_law_a", "_law_c", "_law_b", "_law_top", "_law_bottom"] ["_law_cup_here"] (defScope s_law_three) := ⟨rfl, rfl, rfl, by decide +kernel, rfl, by decide +kernel, by decide +kernel⟩

theorem ok_three {f : Addr} {fd : FuncData} (F : Fun K "_law_three" "_law_three" s_law_three f fd) (T : Txt K mg) (D_law_sip : Df P w K mg base 1 "_law_sip" ["_law_cup_here", "_law_many"] spSip) (D_law_pick : Df P w K mg base 2 "_law_pick" ["_law_cup_here", "_law_things"] spPick) : FnOk P w K mg base CX0 3 f fd ["_law_cup_here"] spThree := by
  refine F.ok sc_law_three (fun vs H Q E h => ?_) (fun cdv A outer s H vs Q E hr h => ?_)
  · obtain ⟨c, rfl, _⟩ := h
    rfl
  · obtain ⟨c, rfl, hc, k⟩ := h
    refine ⟨_, (pss_cons (ps_par (by rfl) sc_law_three.nd (i := 1) (j := 2) rfl rfl (by decide) rfl rfl (pa_cons (pe_df D_law_sip (hr.mono (by decide)) (by rfl) (pa_cons (pv 0) (pa_cons pe_int pa_nil))) (pa_cons (pe_df D_law_pick (hr.mono (by decide)) (by rfl) (pa_cons (pv 0) (pa_cons (pe_lst (pa_cons pe_int (pa_cons pe_int (pa_cons (pe_op op_pow pe_int pe_int) (pa_cons (pe_op op_pow pe_int pe_int) pa_nil))))) pa_nil))) pa_nil)) (by rfl))
      (pss_cons (ps_par (by rfl) sc_law_three.nd (i := 3) (j := 4) rfl rfl (by decide) rfl rfl (pa_cons (pe_df D_law_sip (hr.mono (by decide)) (by rfl) (pa_cons (pv 0) (pa_cons (pv 2) pa_nil))) (pa_cons (pe_op op_add pe_int (pe_df D_law_sip (hr.mono (by decide)) (by rfl) (pa_cons (pv 0) (pa_cons (pv 2) pa_nil)))) pa_nil)) (by rfl))
      (pss_cons (ps_set (i := 5) sc_law_three.nd rfl (.inl rfl) (pe_op op_sub (pe_df D_law_sip (hr.mono (by decide)) (by rfl) (pa_cons (pv 0) (pa_cons (pe_op op_mul pe_int (pv 2)) pa_nil))) (pv 2)))
      (pss_cons (ps_if (PW.pt (pw_or (pt_cmpR op_eq (pv 1) pe_int (nomark _)) (pw_or1 (pt_cmpR op_eq (pv 3) pe_int (nomark _))))) (pss_one (ps_ret (pe_tup (pa_cons pe_int (pa_cons (pe_op op_add pe_int (pe_callB call_abs (by rfl) T.abs (by decide +kernel) (pa_cons (pv 5) pa_nil))) (pa_cons (pe_op op_sub (pv 4) pe_int) pa_nil)))))) pss_nil)
      (pss_cons (ps_if (pt_cmpR op_eq (pv 1) pe_int (nomark _)) (pss_cons (ps_par (by rfl) sc_law_three.nd (i := 6) (j := 7) rfl rfl (by decide) rfl rfl (pa_cons (pe_op op_add pe_int (pe_df D_law_sip (hr.mono (by decide)) (by rfl) (pa_cons (pv 0) (pa_cons pe_int pa_nil)))) (pa_cons (pe_op op_add pe_int (pe_df D_law_sip (hr.mono (by decide)) (by rfl) (pa_cons (pv 0) (pa_cons pe_int pa_nil)))) pa_nil)) (by rfl))
      (pss_one (ps_ret (pe_ifExp (pt_cmpR op_eq (pe_df D_law_sip (hr.mono (by decide)) (by rfl) (pa_cons (pv 0) (pa_cons pe_int pa_nil))) pe_int (nomark _)) (pe_tup (pa_cons (pe_op op_mulX (pv 3) (pv 7)) (pa_cons (pe_op op_sub (pe_op op_mulX (pv 7) (pv 4)) (pe_op op_mulX (pv 3) (pv 6))) (pa_cons (pe_op op_mulX (pv 4) (pv 6)) pa_nil)))) (pe_tup (pa_cons (pe_op op_mulX (pv 3) (pv 3)) (pa_cons pe_int (pa_cons (pe_op op_mulX (pv 4) (pv 4)) pa_nil)))))))) pss_nil)
      (pss_one (ps_ret (pe_tup (pa_cons (pv 3) (pa_cons (pv 5) (pa_cons (pv 4) pa_nil))))))))))), ?_⟩
    refine ⟨_, rfl, c, 5, rfl, hc, by decide, (by unfold Sm; decide), fun H1 way b1 hc1 w0 w1 => ?_⟩
    refine ⟨_, rfl, _, _, rfl, rfl, ⟨by decide, by decide, by decide⟩, _, _, rfl, rfl, ⟨by decide, by decide, by decide⟩, (by show 4 ≤ sizeLine; decide), fun l hl => ?_⟩
    have sl := same_upd (o := .lst [.int 4, .int 30, .int (10 ^ Int.toNat 6), .int (10 ^ Int.toNat 20)]) hl
    refine ⟨c, l, _, rfl, hc1.same sl, hc1.ne hl, upd_same, by decide, by decide, fun H2 v b2 hc2 hv => ?_⟩
    have e6 : (10 : Int) ^ Int.toNat 6 = 1000000 := by decide
    have e20 : (10 : Int) ^ Int.toNat 20 = 100000000000000000000 := by decide
    obtain ⟨wide, rfl, wl, wh⟩ : ∃ wide : Int, v = .int wide ∧ 4 ≤ wide ∧ wide ≤ 100000000000000000000 := by
      simp only [List.mem_cons, List.not_mem_nil, or_false] at hv
      rcases hv with rfl | rfl | rfl | rfl
      · exact ⟨_, rfl, by omega, by omega⟩
      · exact ⟨_, rfl, by omega, by omega⟩
      · exact ⟨_, rfl, by omega, by omega⟩
      · exact ⟨_, rfl, by omega, by omega⟩
    have bb := b1.trans ((But.of sl).trans b2)
    refine ⟨_, _, rfl, ?_⟩
    have sm20 : ∀ {z : Int}, 0 ≤ z → z ≤ 200000000000000000000 → Sm 70 z := fun h0 h1 => sm_lt h0 (Int.lt_of_le_of_lt h1 (by decide))
    refine ⟨_, rfl, _, rfl, c, wide, rfl, hc2, by omega, (sm20 (by omega) (by omega)).mono (by decide), fun H3 a b3 hc3 a0 a1 => ?_⟩
    refine ⟨_, rfl, _, rfl, c, wide, rfl, hc3, by omega, (sm20 (by omega) (by omega)).mono (by decide), fun H4 d b4 hc4 d0 d1 => ?_⟩
    refine ⟨_, _, rfl, rfl, _, _, rfl, ?_⟩
    refine ⟨_, rfl, _, rfl, _, _, rfl, rfl, .inl ⟨by decide, by decide⟩, c, 2 * wide, rfl, hc4, by omega, (sm20 (by omega) (by omega)).mono (by decide), fun H5 g b5 hc5 g0 g1 => ?_⟩
    refine ⟨_, rfl, _, _, rfl, rfl, ?_⟩
    have bb5 := ((bb.trans b3).trans b4).trans b5
    -- way 0, or a is 0
    have fin0 : ∀ z : Int, (z = if g - wide < 0 then -(g - wide) else g - wide) → Big 0 (1 + z) (1 + d - 1) := fun z ez => by
      have : 0 ≤ z ∧ z ≤ 100000000000000000000 := by
        subst ez
        split <;> omega
      exact ⟨.inl ⟨rfl, by omega, by omega⟩, by omega, by omega, by omega, by omega⟩
    refine ⟨_, rfl, rfl, _, rfl, ite2 (fun e => iteT ?_) (fun e => ?_)⟩
    · refine ⟨_, rfl, _, rfl, _, _, rfl, rfl, _, rfl, _, _, rfl, rfl, (by show 3 ≤ sizeLine; decide), fun q hq => ?_⟩
      exact k _ q _ _ _ (bb5.trans (But.of (same_upd hq))) (hc5.same (same_upd hq)) upd_same (fin0 _ rfl)
    · refine ⟨_, rfl, rfl, _, rfl, ite2 (fun e2 => ?_) (fun e2 => ?_)⟩
      · refine ⟨_, rfl, _, rfl, _, _, rfl, rfl, _, rfl, _, _, rfl, rfl, (by show 3 ≤ sizeLine; decide), fun q hq => ?_⟩
        exact k _ q _ _ _ (bb5.trans (But.of (same_upd hq))) (hc5.same (same_upd hq)) upd_same (fin0 _ rfl)
      · have a2 : ¬ a = 0 := fun z => e2 (decide_eq_true (congrArg V.int z))
        have as : Sm 70 a := sm20 a0 (by omega)
        have ds : Sm 70 (1 + d) := sm20 (by omega) (by omega)
        refine ⟨_, rfl, rfl, _, rfl, ite2 (fun e3 => ?_) (fun e3 => ?_)⟩
        · refine ⟨_, rfl, c, 30, rfl, hc5, by decide, (by unfold Sm; decide), fun H6 x b6 hc6 x0 x1 => ⟨_, _, rfl, rfl, ?_⟩⟩
          refine ⟨_, rfl, c, 30, rfl, hc6, by decide, (by unfold Sm; decide), fun H7 y b7 hc7 y0 y1 => ⟨_, _, rfl, rfl, _, _, rfl, ?_⟩⟩
          refine ⟨_, rfl, c, 2, rfl, hc7, by decide, (by unfold Sm; decide), fun H8 u b8 hc8 u0 u1 => ⟨rfl, _, rfl, ite2 (fun e4 => ?_) (fun e4 => ?_)⟩⟩
          · have xs : Sm 70 (1 + x) := sm20 (by omega) (by omega)
            have ys : Sm 70 (1 + y) := sm20 (by omega) (by omega)
            refine ⟨_, rfl, _, rfl, _, _, rfl, rfl, mx as ys, _, rfl, _, rfl, _, _, rfl, rfl, mx ys ds, _, rfl, _, rfl, _, _, rfl, rfl, mx as xs, _, _, rfl, rfl, _, rfl, _, rfl, _, _, rfl, rfl, mx ds xs, (by show 3 ≤ sizeLine; decide), fun q hq => ?_⟩
            have r1 : 1 * 1 ≤ a * (1 + y) := Int.mul_le_mul (by omega) (by omega) (by omega) (by omega)
            have r2 : a * (1 + y) ≤ 100000000000000000000 * 30 := Int.mul_le_mul (by omega) (by omega) (by omega) (by omega)
            have r3 : 0 ≤ (1 + y) * (1 + d) := Int.mul_nonneg (by omega) (by omega)
            have r4 : (1 + y) * (1 + d) ≤ 30 * 100000000000000000000 := Int.mul_le_mul (by omega) (by omega) (by omega) (by omega)
            have r5 : 0 ≤ a * (1 + x) := Int.mul_nonneg (by omega) (by omega)
            have r6 : a * (1 + x) ≤ 100000000000000000000 * 30 := Int.mul_le_mul (by omega) (by omega) (by omega) (by omega)
            have r7 : 1 * 1 ≤ (1 + d) * (1 + x) := Int.mul_le_mul (by omega) (by omega) (by omega) (by omega)
            have r8 : (1 + d) * (1 + x) ≤ 100000000000000000000 * 30 := Int.mul_le_mul (by omega) (by omega) (by omega) (by omega)
            exact k _ q _ _ _ ((((bb5.trans b6).trans b7).trans b8).trans (But.of (same_upd hq))) (hc8.same (same_upd hq)) upd_same ⟨.inr ⟨by omega, by omega⟩, by omega, by omega, by omega, by omega⟩
          · refine ⟨_, rfl, _, rfl, _, _, rfl, rfl, mx as as, _, rfl, _, rfl, _, _, rfl, rfl, mx ds ds, (by show 3 ≤ sizeLine; decide), fun q hq => ?_⟩
            have r1 : 1 * 1 ≤ a * a := Int.mul_le_mul (by omega) (by omega) (by omega) (by omega)
            have r2 : a * a ≤ 100000000000000000000 * 100000000000000000000 := Int.mul_le_mul (by omega) (by omega) (by omega) (by omega)
            have r7 : 1 * 1 ≤ (1 + d) * (1 + d) := Int.mul_le_mul (by omega) (by omega) (by omega) (by omega)
            have r8 : (1 + d) * (1 + d) ≤ 100000000000000000000 * 100000000000000000000 := Int.mul_le_mul (by omega) (by omega) (by omega) (by omega)
            exact k _ q _ _ _ ((((bb5.trans b6).trans b7).trans b8).trans (But.of (same_upd hq))) (hc8.same (same_upd hq)) upd_same ⟨.inr ⟨by omega, by omega⟩, by omega, by omega, by omega, by omega⟩
        · refine ⟨_, rfl, _, rfl, _, rfl, (by show 3 ≤ sizeLine; decide), fun q hq => ?_⟩
          exact k _ q _ _ _ (bb5.trans (But.of (same_upd hq))) (hc5.same (same_upd hq)) upd_same ⟨.inr ⟨by omega, by omega⟩, by omega, by omega, by omega, by omega⟩
abbrev s_law_small : Stmt := top 32
theorem sc_law_small : FnScope ["_law_cup_here", "_law_wide", "_law_a", "_law_c", "_law_b"] ["_law_cup_here"] (defScope s_law_small) := ⟨rfl, rfl, rfl, by decide +kernel, rfl, by decide +kernel, by decide +kernel⟩

theorem ok_small {f : Addr} {fd : FuncData} (F : Fun K "_law_small" "_law_small" s_law_small f fd) (T : Txt K mg) (D_law_sip : Df P w K mg base 1 "_law_sip" ["_law_cup_here", "_law_many"] spSip) (D_law_pick : Df P w K mg base 2 "_law_pick" ["_law_cup_here", "_law_things"] spPick) : FnOk P w K mg base CX0 3 f fd ["_law_cup_here"] spSmall := by
  refine F.ok sc_law_small (fun vs H Q E h => ?_) (fun cdv A outer s H vs Q E hr h => ?_)
  · obtain ⟨c, rfl, _⟩ := h
    rfl
  · obtain ⟨c, rfl, hc, k⟩ := h
    refine ⟨_, (pss_cons (ps_set (i := 1) sc_law_small.nd rfl (.inl rfl) (pe_df D_law_pick (hr.mono (by decide)) (by rfl) (pa_cons (pv 0) (pa_cons (pe_lst (pa_cons pe_int (pa_cons pe_int (pa_cons pe_int pa_nil)))) pa_nil))))
      (pss_cons (ps_par (by rfl) sc_law_small.nd (i := 2) (j := 3) rfl rfl (by decide) rfl rfl (pa_cons (pe_df D_law_sip (hr.mono (by decide)) (by rfl) (pa_cons (pv 0) (pa_cons (pv 1) pa_nil))) (pa_cons (pe_op op_add pe_int (pe_df D_law_sip (hr.mono (by decide)) (by rfl) (pa_cons (pv 0) (pa_cons (pv 1) pa_nil)))) pa_nil)) (by rfl))
      (pss_cons (ps_set (i := 4) sc_law_small.nd rfl (.inl rfl) (pe_op op_sub (pe_df D_law_sip (hr.mono (by decide)) (by rfl) (pa_cons (pv 0) (pa_cons (pe_op op_mul pe_int (pv 1)) pa_nil))) (pv 1)))
      (pss_one (ps_ret (pe_ifExp (pt_cmpR op_gt (pv 2) pe_int (nomark _)) (pe_tup (pa_cons (pv 2) (pa_cons (pv 4) (pa_cons (pv 3) pa_nil)))) (pe_tup (pa_cons pe_int (pa_cons (pe_op op_add pe_int (pe_callB call_abs (by rfl) T.abs (by decide +kernel) (pa_cons (pv 4) pa_nil))) (pa_cons (pe_op op_sub (pv 3) pe_int) pa_nil)))))))))), ?_⟩
    refine ⟨_, rfl, (by show 3 ≤ sizeLine; decide), fun l hl => ?_⟩
    have sl := same_upd (o := .lst [.int 3, .int 12, .int 60]) hl
    refine ⟨c, l, _, rfl, hc.same sl, hc.ne hl, upd_same, by decide, by decide, fun H2 v b2 hc2 hv => ?_⟩
    obtain ⟨wide, rfl, wl, wh⟩ : ∃ wide : Int, v = .int wide ∧ 3 ≤ wide ∧ wide ≤ 60 := by
      simp only [List.mem_cons, List.not_mem_nil, or_false] at hv
      rcases hv with rfl | rfl | rfl
      · exact ⟨_, rfl, by omega, by omega⟩
      · exact ⟨_, rfl, by omega, by omega⟩
      · exact ⟨_, rfl, by omega, by omega⟩
    have bb := (But.of sl).trans b2
    have s8 : ∀ {z : Int}, 0 ≤ z → z ≤ 200 → Sm 200 z := fun h0 h1 => (sm_lt (n := 8) h0 (Int.lt_of_le_of_lt h1 (by decide))).mono (by decide)
    refine ⟨_, rfl, _, rfl, c, wide, rfl, hc2, by omega, s8 (by omega) (by omega), fun H3 a b3 hc3 a0 a1 => ?_⟩
    refine ⟨_, rfl, _, rfl, c, wide, rfl, hc3, by omega, s8 (by omega) (by omega), fun H4 d b4 hc4 d0 d1 => ?_⟩
    refine ⟨_, _, rfl, rfl, _, _, rfl, ?_⟩
    refine ⟨_, rfl, _, rfl, _, _, rfl, rfl, .inl ⟨by decide, by decide⟩, c, 2 * wide, rfl, hc4, by omega, s8 (by omega) (by omega), fun H5 g b5 hc5 g0 g1 => ?_⟩
    refine ⟨_, rfl, _, _, rfl, rfl, ?_⟩
    have bb5 := ((bb.trans b3).trans b4).trans b5
    refine ⟨_, rfl, _, _, rfl, rfl, _, rfl, ite2 (fun e => ?_) (fun e => ?_)⟩
    · have e0 : 0 < a := of_decide_eq_true e
      refine ⟨_, rfl, _, rfl, _, rfl, (by show 3 ≤ sizeLine; decide), fun q hq => ?_⟩
      exact k _ q _ _ _ (bb5.trans (But.of (same_upd hq))) (hc5.same (same_upd hq)) upd_same ⟨.inr ⟨by omega, by omega⟩, by omega, by omega, by omega⟩
    · refine ⟨_, rfl, _, rfl, _, _, rfl, rfl, _, rfl, _, _, rfl, rfl, (by show 3 ≤ sizeLine; decide), fun q hq => ?_⟩
      refine k _ q _ _ _ (bb5.trans (But.of (same_upd hq))) (hc5.same (same_upd hq)) upd_same ⟨.inl ⟨rfl, ?_, by omega⟩, by decide, ?_, by omega⟩
      · split <;> omega
      · split <;> omega
abbrev s_law_figures : Stmt := top 33
theorem sc_law_figures : FnScope ["_law_three_here", "_law_by", "_law_a", "_law_b", "_law_c", "_law_inside"] ["_law_three_here", "_law_by"] (defScope s_law_figures) := ⟨rfl, rfl, rfl, by decide +kernel, rfl, by decide +kernel, by decide +kernel⟩

theorem ok_figures {f : Addr} {fd : FuncData} (F : Fun K "_law_figures" "_law_figures" s_law_figures f fd) (D_law_root : Df P w K mg base 1 "_law_root" ["_law_worth"] spRoot) : FnOk P w K mg base CX0 2 f fd ["_law_three_here", "_law_by"] spFigures := by
  refine F.ok sc_law_figures (fun vs H Q E h => ?_) (fun cdv A outer s H vs Q E hr h => ?_)
  · obtain ⟨p, a, b, c, t, rfl, _⟩ := h
    rfl
  · obtain ⟨p, a, b, c, t, rfl, hp, hG, ha, hb, hc, t0, ts, k⟩ := h
    refine ⟨_, (pss_cons (ps_if (pt_cmpR op_eq (pe_ix ix_tup (pv 0) pe_int (fun _ _ => rfl)) pe_int (nomark _)) (pss_one (ps_ret (pe_op op_fdivW (pe_op op_mulX (pv 1) (pe_ix ix_tup (pv 0) pe_int (fun _ _ => rfl))) (pe_ix ix_tup (pv 0) pe_int (fun _ _ => rfl))))) pss_nil)
      (pss_cons (ps_asg (pv 0) (pg_tup rfl (pgs_cons (pg_name (i := 2) sc_law_figures.nd rfl (.inl rfl)) (pgs_cons (pg_name (i := 3) sc_law_figures.nd rfl (.inl rfl)) (pgs_cons (pg_name (i := 4) sc_law_figures.nd rfl (.inl rfl)) pgs_nil)))))
      (pss_cons (ps_set (i := 5) sc_law_figures.nd rfl (.inl rfl) (pe_op op_mulX (pe_op op_mulX (pv 1) (pv 1)) (pe_op op_add (pe_op op_mulX (pv 3) (pv 3)) (pe_op op_mulX (pe_op op_mul pe_int (pv 2)) (pv 4)))))
      (pss_one (ps_ret (pe_op op_fdivW (pe_op op_sub (pe_df D_law_root (hr.mono (by decide)) (by rfl) (pa_cons (pv 5) pa_nil)) (pe_op op_mulX (pv 1) (pv 3))) (pe_op op_mul pe_int (pv 2)))))))), ?_⟩
    unfold flo at k
    refine ⟨_, rfl, p, _, _, _, rfl, rfl, SqT.of hp, atI_nat (j := 0) rfl, rfl, _, rfl, ite2 (fun e => ?_) (fun e => ?_)⟩
    · have s0 : a = 0 := V.int.inj (of_decide_eq_true e)
      rw [if_pos s0] at k
      have l0 : 0 < b := by
        rcases hG with g | g <;> omega
      exact ⟨_, rfl, _, rfl, p, _, _, _, rfl, rfl, SqT.of hp, atI_nat (j := 2) rfl, _, _, rfl, rfl, mx ts hc, _, rfl, p, _, _, _, rfl, rfl, SqT.of hp, atI_nat (j := 1) rfl, _, _, rfl, rfl, dvw l0 hb, k _ (Same.refl _)⟩
    · have s0 : ¬ a = 0 := fun z => e (decide_eq_true (congrArg V.int z))
      rw [if_neg s0] at k
      have g : 1 ≤ a ∧ 1 ≤ c := by
        rcases hG with g | g
        · exact absurd g.1 s0
        · exact g
      have ip := inside_pos (b := b) g
      refine ⟨_, rfl, p, _, rfl, SqT.of hp, rfl, _, _, rfl, _, _, rfl, _, _, rfl, rfl, ?_⟩
      have h4 : Sm 403 (4 * a) := Sm.mul (m := 3) (n := 400) (x := 4) (by unfold Sm; decide) ha
      have tt : Sm (400 + 400) (t * t) := ts.mul ts
      have hd : Sm 1300 (b * b + 4 * a * c) := by
        have e1 : Sm (400 + 400) (b * b) := hb.mul hb
        have e2 : Sm (403 + 400) (4 * a * c) := h4.mul hc
        exact (Sm.add (n := 803) (e1.mono (by decide)) (e2.mono (by decide))).mono (by decide)
      refine ⟨_, rfl, _, rfl, _, _, rfl, rfl, mx ts ts, _, rfl, _, rfl, _, _, rfl, rfl, mx hb hb, _, rfl, _, _, rfl, rfl, .inl ⟨by decide, by decide⟩, _, rfl, _, _, rfl, rfl, mx h4 hc, _, _, rfl, rfl, _, _, rfl, rfl, mx tt hd, ?_⟩
      refine ⟨_, rfl, _, rfl, Int.mul_nonneg (Int.mul_nonneg (by omega) (by omega)) ip.2, (tt.mul hd).mono (by decide), fun H1 sm => ?_⟩
      have s2 : Sm 500 (2 * a) := (Sm.mul (m := 2) (x := 2) (by unfold Sm; decide) ha).mono (by decide)
      refine ⟨_, rfl, _, rfl, _, _, rfl, rfl, mx ts hb, _, _, rfl, rfl, _, rfl, _, _, rfl, rfl, .inl ⟨by decide, by decide⟩, _, _, rfl, rfl, dvw (by omega) s2, ?_⟩
      exact k _ sm
abbrev s_law_due : Stmt := top 34
theorem sc_law_due : FnScope ["_law_one", "_law_two", "_law_size", "_law_by", "_law_left", "_law_right_here"] ["_law_one", "_law_two"] (defScope s_law_due) := ⟨rfl, rfl, rfl, by decide +kernel, rfl, by decide +kernel, by decide +kernel⟩

theorem ok_due {f : Addr} {fd : FuncData} (F : Fun K "_law_due" "_law_due" s_law_due f fd) (D_law_normal : Df P w K mg base 2 "_law_normal" ["_law_a", "_law_b", "_law_c"] spNormal) (D_law_ten : Df P w K mg base 1 "_law_ten" ["_law_figures_here"] spTen) (D_law_figures : Df P w K mg base 2 "_law_figures" ["_law_three_here", "_law_by"] spFigures) : FnOk P w K mg base CX0 3 f fd ["_law_one", "_law_two"] spDue := by
  refine F.ok sc_law_due (fun vs H Q E h => ?_) (fun cdv A outer s H vs Q E hr h => ?_)
  · obtain ⟨p, q, a, b, c, a', b', c', rfl, _⟩ := h
    rfl
  · obtain ⟨p, q, a, b, c, a', b', c', rfl, hp, hq, hB, hB', k⟩ := h
    refine ⟨_, (pss_cons (ps_if (pt_cmpR (op_eqD hr.units) (pe_df D_law_normal (hr.mono (by decide)) (by rfl) (pa_cons (pe_ix ix_tup (pv 0) pe_int (fun _ _ => rfl)) (pa_cons (pe_ix ix_tup (pv 0) pe_int (fun _ _ => rfl)) (pa_cons (pe_ix ix_tup (pv 0) pe_int (fun _ _ => rfl)) pa_nil)))) (pe_df D_law_normal (hr.mono (by decide)) (by rfl) (pa_cons (pe_ix ix_tup (pv 1) pe_int (fun _ _ => rfl)) (pa_cons (pe_ix ix_tup (pv 1) pe_int (fun _ _ => rfl)) (pa_cons (pe_ix ix_tup (pv 1) pe_int (fun _ _ => rfl)) pa_nil)))) (nomark _)) (pss_one (ps_ret pe_int)) pss_nil)
      (pss_cons (ps_for PassesOwn.never rfl (pi_list (pe_lst (pa_cons pe_int (pa_cons pe_int (pa_cons pe_int pa_nil))))) (pg_name (i := 2) sc_law_due.nd rfl (.inl rfl)) (pss_cons (ps_set (i := 3) sc_law_due.nd rfl (.inl rfl) (pe_df D_law_ten (hr.mono (by decide)) (by rfl) (pa_cons (pv 2) pa_nil)))
      (pss_cons (ps_par (by rfl) sc_law_due.nd (i := 4) (j := 5) rfl rfl (by decide) rfl rfl (pa_cons (pe_df D_law_figures (hr.mono (by decide)) (by rfl) (pa_cons (pv 0) (pa_cons (pv 3) pa_nil))) (pa_cons (pe_df D_law_figures (hr.mono (by decide)) (by rfl) (pa_cons (pv 1) (pa_cons (pv 3) pa_nil))) pa_nil)) (by rfl))
      (pss_one (ps_if (pt_cmpR op_ne (pv 4) (pv 5) (nomark _)) (pss_one (ps_ret (pe_ifExp (pt_cmpR op_lt (pv 4) (pv 5) (nomark _)) (pe_un un_neg pe_int) pe_int))) pss_nil)))))
      (pss_one (ps_ret pe_int)))), ?_⟩
    obtain ⟨sa, sb, sc⟩ := hB.sm
    obtain ⟨sa', sb', sc'⟩ := hB'.sm
    refine ⟨_, rfl, p, _, _, _, rfl, rfl, SqT.of hp, atI_nat (j := 0) rfl, _, rfl, p, _, _, _, rfl, rfl, SqT.of hp, atI_nat (j := 1) rfl, _, rfl, p, _, _, _, rfl, rfl, SqT.of hp, atI_nat (j := 2) rfl, a, b, c, rfl, hB.1, sa, sb, sc, fun H1 n1 s1 hn1 => ?_⟩
    have hq1 := s1 _ _ hq
    refine ⟨_, rfl, q, _, _, _, rfl, rfl, SqT.of hq1, atI_nat (j := 0) rfl, _, rfl, q, _, _, _, rfl, rfl, SqT.of hq1, atI_nat (j := 1) rfl, _, rfl, q, _, _, _, rfl, rfl, SqT.of hq1, atI_nat (j := 2) rfl, a', b', c', rfl, hB'.1, sa', sb', sc', fun H2 n2 s2 hn2 => ?_⟩
    have s12 := s1.trans s2
    refine ⟨_, _, .tup (SqT.of (s2 _ _ hn1)) (.cons (.int _) (.cons (.int _) (.cons (.int _) .nil))), .tup (SqT.of hn2) (.cons (.int _) (.cons (.int _) (.cons (.int _) .nil))), rfl, rfl, _, rfl, ?_⟩
    rw [eqv3]
    unfold dueV at k
    refine ite2 (fun e => ?_) (fun e => ?_)
    · rw [if_pos (show parts a b c = parts a' b' c' from of_decide_eq_true e)] at k
      exact k _ s12
    · rw [if_neg (show ¬ parts a b c = parts a' b' c' from fun z => e (decide_eq_true z))] at k
      generalize hD : dueAt a b c a' b' c' [3, 12, 30] = D0 at k
      refine ⟨(by show 3 ≤ sizeLine; decide), fun l hl => ?_⟩
      have s3 := s12.trans (same_upd (o := .lst [.int 3, .int 12, .int 30]) hl)
      refine ⟨l, rfl, ⟨_, SqL.of upd_same⟩, for_list (K := K) (a := l) (xs := [.int 3, .int 12, .int 30]) (fun j σ H' => (∃ v2 v3 v4 v5, σ = [some (.ref p), some (.ref q), v2, v3, v4, v5]) ∧ Same (upd H2 l (.lst [.int 3, .int 12, .int 30])) H' ∧ D0 = dueAt a b c a' b' c' ([3, 12, 30].drop j)) ⟨⟨_, _, _, _, rfl⟩, Same.refl _, hD.symm⟩ (fun _ _ _ _ h => SqL.of (h.2.1 _ _ upd_same)) ?_ ?_⟩
      · rintro j y σ Ha hj ⟨⟨v2, v3, v4, v5, rfl⟩, sa1, ed⟩
        obtain ⟨n, rfl, hn, en⟩ : ∃ n : Nat, y = .int (n : Int) ∧ n ≤ 100 ∧ [3, 12, 30].drop j = n :: [3, 12, 30].drop (j + 1) := by
          match j, hj with
          | 0, hj =>
            cases hj
            exact ⟨3, rfl, by decide, rfl⟩
          | 1, hj =>
            cases hj
            exact ⟨12, rfl, by decide, rfl⟩
          | 2, hj =>
            cases hj
            exact ⟨30, rfl, by decide, rfl⟩
        rw [en, dueAt_cons] at ed
        have hn40 : n ≤ 40 := by
          have : n ∈ [3, 12, 30] := List.mem_of_mem_drop (i := j) (by rw [en]; exact List.mem_cons_self)
          simp only [List.mem_cons, List.not_mem_nil, or_false] at this
          omega
        have ts : Sm 400 ((10 : Int) ^ n) := by
          have h1 : Sm 4 10 := by unfold Sm; decide
          have : ∀ m : Nat, Sm (4 * m + 1) ((10 : Int) ^ m) := fun m => by
            induction m with
            | zero => unfold Sm; decide
            | succ m ih =>
              rw [Int.pow_succ]
              exact (ih.mul h1).mono (by omega)
          exact (this n).mono (by omega)
        have s4 := s3.trans sa1
        refine ⟨_, rfl, n, rfl, hn, ?_⟩
        refine ⟨_, rfl, _, rfl, p, a, b, c, 10 ^ n, rfl, s4 _ _ hp, hB.1, sa.mono (by decide), sb.mono (by decide), sc.mono (by decide), ten_pos n, ts, fun Hb sb1 => ?_⟩
        refine ⟨_, rfl, _, rfl, q, a', b', c', 10 ^ n, rfl, (s4.trans sb1) _ _ hq, hB'.1, sa'.mono (by decide), sb'.mono (by decide), sc'.mono (by decide), ten_pos n, ts, fun Hc sc1 => ⟨_, _, rfl, ?_⟩⟩
        have s5 := s4.trans (sb1.trans sc1)
        refine ⟨_, rfl, _, rfl, rfl, _, rfl, ite2 (fun e2 => ?_) (fun e2 => ?_)⟩
        · have e3 : ¬ flo a b c (10 ^ n) = flo a' b' c' (10 ^ n) := fun z => by
            have e5 : (!decide (V.int (flo a b c (10 ^ n)) = V.int (flo a' b' c' (10 ^ n)))) = true := e2
            rw [decide_eq_true (congrArg V.int z)] at e5
            cases e5
          rw [if_neg e3] at ed
          rw [ed] at k
          refine ⟨_, rfl, _, rfl, _, _, rfl, rfl, _, rfl, ite2 (fun e4 => ?_) (fun e4 => ?_)⟩
          · rw [if_pos (show flo a b c (10 ^ n) < flo a' b' c' (10 ^ n) from of_decide_eq_true e4)] at k
            exact ⟨1, rfl, k _ s5⟩
          · rw [if_neg (show ¬ flo a b c (10 ^ n) < flo a' b' c' (10 ^ n) from fun z => e4 (decide_eq_true z))] at k
            exact k _ s5
        · have e3 : flo a b c (10 ^ n) = flo a' b' c' (10 ^ n) := by
            refine Classical.byContradiction fun z => e2 ?_
            show (!decide (V.int (flo a b c (10 ^ n)) = V.int (flo a' b' c' (10 ^ n)))) = true
            rw [decide_eq_false (fun y => z (V.int.inj y))]
            rfl
          rw [if_pos e3] at ed
          exact ⟨⟨_, _, _, _, rfl⟩, sa1.trans (sb1.trans sc1), ed⟩
      · rintro σ Ha ⟨⟨v2, v3, v4, v5, rfl⟩, sa1, ed⟩
        rw [ed] at k
        exact k _ (s3.trans sa1)
end
end RL

namespace RL
open PySem L2
/-! ### a new Exact -/
structure ExD (P : Program) (w : World) (K : PySem.W.Frag) (mg : Str → Option Value) (base : Heap) (C : Addr) : Prop where
  ex : ∃ (fI : Addr) (fdI : FuncData), Mk K C fI ∧ FnOk P w K mg base CX0 5 fI fdI ["self", "square", "line", "whole"] (spInit C) ∧ Binds K fdI ["self", "square", "line", "whole"] []
theorem pe_exact {X : Cx} {C : Addr} {p pos : Pos} {e : Expr} {es : List Expr} {t : TA} (D : ExD X.prog X.w X.K X.mg X.base C) (hr : Room 6 X.A) (hg : Gl X "Exact") (hm : X.mg "Exact" = some (.ref C))
    (ha : PA X (e :: es) t) (he : starEach (e :: es) X.env = (false, eval e X.env) :: starEach es X.env := by rfl) (hpl : (backTo pos (starEach es X.env)).any (·.1) = false := by rfl) :
    PE X (.Call (.Name "Exact" p) (e :: es) [] pos) (tMake C (spInit C) [] E0 t) := by
  obtain ⟨fI, fdI, M, G, hb⟩ := D.ex
  exact pe_make M G hr hg hm hb .nil pass0 ha (by decide) he hpl
theorem But.new {c l : Addr} {o : HO} {H H' : Hp} (b : But c H H') (n : H l = none) : But c H (L2.upd H' l o) := fun x u nx e => by
  rw [upd_ne (ne_of_none e n)]
  exact b x u nx e
theorem lk_floor (v : V) : ([("parts", v)] : List (Str × V)).lookup ("floor" : Str) = none := by
  have : (("floor" : Str) == ("parts" : Str)) = false := by decide +kernel
  simp [List.lookup, this]
theorem lk_order (v : V) : ([("parts", v)] : List (Str × V)).lookup ("order" : Str) = none := by
  have : (("order" : Str) == ("parts" : Str)) = false := by decide +kernel
  simp [List.lookup, this]
theorem ExAt.same {C x : Addr} {H H' : Hp} {s l w : Int} (h : ExAt C H x s l w) (sm : Same H H') : ExAt C H' x s l w := by
  obtain ⟨dx, p, a, b⟩ := h
  exact ⟨dx, p, sm _ _ a, sm _ _ b⟩
theorem ExAt.but {C x c : Addr} {H H' : Hp} {s l w : Int} (h : ExAt C H x s l w) (hc : CupAt c H) (sm : But c H H') : ExAt C H' x s l w := by
  obtain ⟨dx, p, a, b⟩ := h
  refine ⟨dx, p, ?_, sm.tup hc b⟩
  obtain ⟨u, v, e, _⟩ := hc
  exact sm _ _ (ne_of a e (by intro z; cases z)) a
theorem smt {t : Int} (t0 : 1 ≤ t) (t1 : t ≤ 10000000000000000000000000000000000000000) : Sm 133 t := by
  have e40 : (10 : Int) ^ 40 = 10000000000000000000000000000000000000000 := by decide
  exact sm40 (by omega) (by omega)
/-- a floor is not too great -/
theorem flo_sm {s l w t : Int} (h : Good s l w) (hs : Sm 400 s) (hl : Sm 400 l) (hw : Sm 400 w) (t0 : 1 ≤ t) (ts : Sm 133 t) : Sm 950 (flo s l w t) := by
  unfold flo
  split
  · rename_i z
    have l0 : 0 < l := by
      rcases h with g | g <;> omega
    exact ((ts.mul hw).div l0).mono (by decide)
  · rename_i z
    have g : 1 ≤ s ∧ 1 ≤ w := by
      rcases h with g | g
      · exact absurd g.1 z
      · exact g
    have ip := inside_pos (b := l) g
    have hd : Sm 1300 (l * l + 4 * s * w) := by
      have h4 : Sm 3 4 := by unfold Sm; decide
      have e1 : Sm (400 + 400) (l * l) := hl.mul hl
      have e2 : Sm (3 + 400 + 400) (4 * s * w) := (h4.mul hs).mul hw
      exact (Sm.add (n := 803) (e1.mono (by decide)) (e2.mono (by decide))).mono (by decide)
    have tt : Sm (133 + 133) (t * t) := ts.mul ts
    have w0 : 0 ≤ t * t * (l * l + 4 * s * w) := Int.mul_nonneg (Int.mul_nonneg (by omega) (by omega)) ip.2
    have hr : Sm 900 (rt (t * t * (l * l + 4 * s * w))) := rt_sm (n := 900) w0 ((tt.mul hd).mono (by decide))
    exact ((Sm.sub (n := 900) hr ((ts.mul hl).mono (by decide))).div (by omega)).mono (by decide)
def spRight : Sp := fun vs H Q _ => ∃ c : Addr, vs = [.ref c] ∧ CupAt c H ∧ ∀ H', But c H H' → Q (.bl true) H'
theorem ne_selfV (v : V) : ¬ (!decide (v = v)) = true := by
  rw [decide_eq_true rfl]
  decide
theorem sg_vals (n : Int) : sg n = -1 ∨ sg n = 0 ∨ sg n = 1 := by
  unfold sg
  split
  · exact .inr (.inr rfl)
  · split
    · exact .inl rfl
    · exact .inr (.inl rfl)
theorem side_vals (a b c x y : Int) : side a b c x y = -1 ∨ side a b c x y = 0 ∨ side a b c x y = 1 := by
  unfold side
  split
  · exact .inl rfl
  · exact sg_vals _
theorem dueAt_vals (a b c a' b' c' : Int) : ∀ ns : List Nat, dueAt a b c a' b' c' ns = -1 ∨ dueAt a b c a' b' c' ns = 0 ∨ dueAt a b c a' b' c' ns = 1
  | [] => .inr (.inl rfl)
  | n :: r => by
    rw [dueAt_cons]
    split
    · exact dueAt_vals a b c a' b' c' r
    · split
      · exact .inl rfl
      · exact .inr (.inr rfl)
theorem due_vals (a b c a' b' c' : Int) : dueV a b c a' b' c' = -1 ∨ dueV a b c a' b' c' = 0 ∨ dueV a b c a' b' c' = 1 := by
  unfold dueV
  split
  · exact .inr (.inl rfl)
  · exact dueAt_vals _ _ _ _ _ _ _
structure Shows (d : PyData) : Prop where
  s : d.showable = true
  n : d.hasDict = false
  p : d.depth ≤ 40
  l : d.shown.length ≤ sizeLine
theorem shows3 {z : Int} (h : z = -1 ∨ z = 0 ∨ z = 1) : Shows (.list [.int z, .int (-z), .int 0]) := by
  rcases h with rfl | rfl | rfl <;> exact ⟨by decide +kernel, by decide +kernel, by decide +kernel, by decide +kernel⟩
theorem shows2 {z : Int} (h : z = -1 ∨ z = 0 ∨ z = 1) : Shows (.list [.int z, .int (-z)]) := by
  rcases h with rfl | rfl | rfl <;> exact ⟨by decide +kernel, by decide +kernel, by decide +kernel, by decide +kernel⟩
theorem made_but {H H1 : Hp} {c x dx C : Addr} (hc : CupAt c H) (nx : H x = none) (ndx : H dx = none) (b : But x (upd (upd H dx (.own x)) x (.ins C dx [])) H1) : Same H H1 := fun y o e =>
  b _ _ (ne_of_none e nx) (by rw [upd_ne (ne_of_none e nx), upd_ne (ne_of_none e ndx)]; exact e)
theorem Tiny.big {a b c : Int} (h : Tiny a b c) : Big a b c := by
  obtain ⟨g, h1, h2, h3⟩ := h
  exact ⟨g, by omega, by omega, by omega, by omega⟩
theorem Big.parts {a b c : Int} (h : Big a b c) : Sm 200 (RL.parts a b c).1 ∧ Sm 200 (RL.parts a b c).2.1 ∧ Sm 200 (RL.parts a b c).2.2 := by
  obtain ⟨sa, sb, sc⟩ := h.sm
  obtain ⟨p1, p2, p3⟩ := parts_sm h.1 sa sb sc
  exact ⟨p1.mono (by decide), p2.mono (by decide), p3.mono (by decide)⟩
section
variable {P : Program} {w : World} {K : PySem.W.Frag} {mg : Str → Option Value} {base : Heap} {tP : Tok} {C : Addr}
abbrev s_law_right : Stmt := top 35
theorem sc_law_right : FnScope ["_law_cup_here", "_law_turn", "_law_one", "_law_two", "_law_by", "_law_mine", "_law_mate", "_law_due_here", "_law_k", "_law_three_here", "_law_at", "_law_step"] ["_law_cup_here"] (defScope s_law_right) := ⟨rfl, rfl, rfl, by decide +kernel, rfl, by decide +kernel, by decide +kernel⟩

theorem ok_right {f : Addr} {fd : FuncData} (F : Fun K "_law_right" "_law_right" s_law_right f fd) (T : Txt2 K mg tP C) (I : IsC K C) (X_exact : ExD P w K mg base C) (M_floor : Mt P w K mg base C 3 "floor" "self" "times" (spFloor C)) (M_order : Mt P w K mg base C 5 "order" "self" "other" (spOrder C))
    {ge : Addr} {fde : FuncData} (e_at : PySem.W.findIn K (.ref C) "__eq__" = some (some (.ref ge))) (e_fn : PySem.W.isFn K (.ref ge) = true) (G_eq : FnOk P w K mg base CX0 1 ge fde ["self", "other"] (spEq C)) (b_eq : Binds K fde ["self", "other"] [])
    (D_law_sip : Df P w K mg base 1 "_law_sip" ["_law_cup_here", "_law_many"] spSip) (D_law_pick : Df P w K mg base 2 "_law_pick" ["_law_cup_here", "_law_things"] spPick) (D_law_three : Df P w K mg base 3 "_law_three" ["_law_cup_here"] spThree) (D_law_small : Df P w K mg base 3 "_law_small" ["_law_cup_here"] spSmall)
    (D_law_due : Df P w K mg base 3 "_law_due" ["_law_one", "_law_two"] spDue) (D_law_side : Df P w K mg base 1 "_law_side" ["_law_three_here", "_law_pair_here"] spSide) :
    FnG P w K mg base 7 f fd ["_law_cup_here"] spRight := by
  refine okG F sc_law_right (fun vs H Q E h => ?_) (fun cdv A outer s H vs Q E hg hr h => ?_)
  · obtain ⟨c, rfl, _⟩ := h
    rfl
  · obtain ⟨c, rfl, hc, k⟩ := h
    refine ⟨_, (pss_cons (ps_for PassesOwn.never rfl (pi_range1 rfl T.range (pa_cons pe_int pa_nil)) (pg_name (i := 1) sc_law_right.nd rfl (.inl rfl)) (pss_cons (ps_par (by rfl) sc_law_right.nd (i := 2) (j := 3) rfl rfl (by decide) rfl rfl (pa_cons (pe_df D_law_small (hr.mono (by decide)) (by rfl) (pa_cons (pv 0) pa_nil)) (pa_cons (pe_df D_law_small (hr.mono (by decide)) (by rfl) (pa_cons (pv 0) pa_nil)) pa_nil)) (by rfl))
      (C8.pss_cut (ps_if (pt_cmpR op_eq (pe_df D_law_sip (hr.mono (by decide)) (by rfl) (pa_cons (pv 0) (pa_cons pe_int pa_nil))) pe_int (nomark _)) (pss_cons (ps_set (i := 4) sc_law_right.nd rfl (.inl rfl) (pe_op op_add pe_int (pe_df D_law_sip (hr.mono (by decide)) (by rfl) (pa_cons (pv 0) (pa_cons pe_int pa_nil)))))
      (pss_one (ps_set (i := 3) sc_law_right.nd rfl (.inl rfl) (pe_tup (pa_cons (pe_op op_mulX (pv 4) (pe_ix ix_tup (pv 2) pe_int (fun _ _ => rfl))) (pa_cons (pe_op op_mulX (pv 4) (pe_ix ix_tup (pv 2) pe_int (fun _ _ => rfl))) (pa_cons (pe_op op_mulX (pv 4) (pe_ix ix_tup (pv 2) pe_int (fun _ _ => rfl))) pa_nil))))))) pss_nil)
      (pss_cons (ps_par (by rfl) sc_law_right.nd (i := 5) (j := 6) rfl rfl (by decide) rfl rfl (pa_cons (pe_exact X_exact (hr.mono (by decide)) rfl T.mgC (pa_cons (pe_ix ix_tup (pv 2) pe_int (fun _ _ => rfl)) (pa_cons (pe_ix ix_tup (pv 2) pe_int (fun _ _ => rfl)) (pa_cons (pe_ix ix_tup (pv 2) pe_int (fun _ _ => rfl)) pa_nil)))) (pa_cons (pe_exact X_exact (hr.mono (by decide)) rfl T.mgC (pa_cons (pe_ix ix_tup (pv 3) pe_int (fun _ _ => rfl)) (pa_cons (pe_ix ix_tup (pv 3) pe_int (fun _ _ => rfl)) (pa_cons (pe_ix ix_tup (pv 3) pe_int (fun _ _ => rfl)) pa_nil)))) pa_nil)) (by rfl))
      (pss_cons (ps_set (i := 7) sc_law_right.nd rfl (.inl rfl) (pe_df D_law_due (hr.mono (by decide)) (by rfl) (pa_cons (pv 2) (pa_cons (pv 3) pa_nil))))
      (pss_cons (ps_if (pt_cmpR op_ne (pe_callB (cr_repr hg hr.units) (by rfl) T.repr (by decide +kernel) (pa_cons (pe_lst (pa_cons (pe_dm (pv 5) T.cl M_order (hr.mono (by decide)) (pa_cons (pv 6) pa_nil)) (pa_cons (pe_dm (pv 6) T.cl M_order (hr.mono (by decide)) (pa_cons (pv 5) pa_nil)) (pa_cons (pe_dm (pv 5) T.cl M_order (hr.mono (by decide)) (pa_cons (pv 5) pa_nil)) pa_nil)))) pa_nil)) (pe_callB (cr_repr hg hr.units) (by rfl) T.repr (by decide +kernel) (pa_cons (pe_lst (pa_cons (pv 7) (pa_cons (pe_un un_neg (pv 7)) (pa_cons pe_int pa_nil)))) pa_nil)) (nomark _)) (pss_one (ps_ret pe_bl)) pss_nil)
      (C8.pss_cut (ps_if (pt_cmpR op_ne (pe_cmpR (op_eqOwn e_at e_fn G_eq b_eq (hr.mono (by decide))) (pv 5) (pv 6) (nomark _)) (pe_cmpR op_eq (pv 7) pe_int (nomark _)) (nomark _)) (pss_one (ps_ret pe_bl)) pss_nil)
      (pss_cons (ps_set (i := 8) sc_law_right.nd rfl (.inl rfl) (pe_op op_add (pe_op op_mulX (pe_op op_add pe_int (pe_df D_law_sip (hr.mono (by decide)) (by rfl) (pa_cons (pv 0) (pa_cons (pe_op op_pow pe_int pe_int) pa_nil)))) (pe_df D_law_pick (hr.mono (by decide)) (by rfl) (pa_cons (pv 0) (pa_cons (pe_lst (pa_cons pe_int (pa_cons (pe_op op_pow pe_int pe_int) (pa_cons (pe_op op_pow pe_int pe_int) pa_nil)))) pa_nil)))) (pe_df D_law_sip (hr.mono (by decide)) (by rfl) (pa_cons (pv 0) (pa_cons (pe_op op_pow pe_int pe_int) pa_nil)))))
      (pss_cons (ps_par (by rfl) sc_law_right.nd (i := 5) (j := 6) rfl rfl (by decide) rfl rfl (pa_cons (pe_exact X_exact (hr.mono (by decide)) rfl T.mgC (pa_cons pe_int (pa_cons (pe_op op_mulX (pe_un un_neg pe_int) (pv 8)) (pa_cons pe_int pa_nil)))) (pa_cons (pe_exact X_exact (hr.mono (by decide)) rfl T.mgC (pa_cons pe_int (pa_cons pe_int (pa_cons (pe_op op_add (pe_op op_mulX (pe_op op_mul pe_int (pv 8)) (pv 8)) pe_int) pa_nil)))) pa_nil)) (by rfl))
      (C8.pss_cut (ps_if (pt_cmpR op_ne (pe_callB (cr_repr hg hr.units) (by rfl) T.repr (by decide +kernel) (pa_cons (pe_lst (pa_cons (pe_dm (pv 5) T.cl M_order (hr.mono (by decide)) (pa_cons (pv 6) pa_nil)) (pa_cons (pe_dm (pv 6) T.cl M_order (hr.mono (by decide)) (pa_cons (pv 5) pa_nil)) pa_nil))) pa_nil)) (pe_callB (cr_repr hg hr.units) (by rfl) T.repr (by decide +kernel) (pa_cons (pe_lst (pa_cons (pe_un un_neg pe_int) (pa_cons pe_int pa_nil))) pa_nil)) (nomark _)) (pss_one (ps_ret pe_bl)) pss_nil)
      (pss_cons (ps_set (i := 9) sc_law_right.nd rfl (.inl rfl) (pe_df D_law_three (hr.mono (by decide)) (by rfl) (pa_cons (pv 0) pa_nil)))
      (pss_cons (ps_set (i := 4) sc_law_right.nd rfl (.inl rfl) (pe_df D_law_pick (hr.mono (by decide)) (by rfl) (pa_cons (pv 0) (pa_cons (pe_lst (pa_cons pe_int (pa_cons pe_int (pa_cons (pe_op op_pow pe_int pe_int) (pa_cons (pe_op op_pow pe_int pe_int) pa_nil))))) pa_nil))))
      (pss_cons (ps_set (i := 5) sc_law_right.nd rfl (.inl rfl) (pe_exact X_exact (hr.mono (by decide)) rfl T.mgC (pa_cons (pe_ix ix_tup (pv 9) pe_int (fun _ _ => rfl)) (pa_cons (pe_ix ix_tup (pv 9) pe_int (fun _ _ => rfl)) (pa_cons (pe_ix ix_tup (pv 9) pe_int (fun _ _ => rfl)) pa_nil)))))
      (pss_cons (ps_set (i := 10) sc_law_right.nd rfl (.inl rfl) (pe_dm (pv 5) T.cl M_floor (hr.mono (by decide)) (pa_cons (pv 4) pa_nil)))
      (pss_one (ps_for PassesOwn.never rfl (pi_range1 rfl T.range (pa_cons pe_int pa_nil)) (pg_name (i := 11) sc_law_right.nd rfl (.inl rfl)) (pss_one (ps_if (pt_cmpR op_le (pe_op op_add (pv 10) (pv 11)) (pe_op op_pow pe_int pe_int) (nomark _)) (pss_cons (ps_par (by rfl) sc_law_right.nd (i := 6) (j := 7) rfl rfl (by decide) rfl rfl (pa_cons (pe_exact X_exact (hr.mono (by decide)) rfl T.mgC (pa_cons pe_int (pa_cons (pv 4) (pa_cons (pe_op op_add (pv 10) (pv 11)) pa_nil)))) (pa_cons (pe_df D_law_side (hr.mono (by decide)) (by rfl) (pa_cons (pv 9) (pa_cons (pe_tup (pa_cons (pe_op op_add (pv 10) (pv 11)) (pa_cons (pv 4) pa_nil))) pa_nil))) pa_nil)) (by rfl))
      (pss_one (ps_if (pt_cmpR op_ne (pe_callB (cr_repr hg hr.units) (by rfl) T.repr (by decide +kernel) (pa_cons (pe_lst (pa_cons (pe_dm (pv 5) T.cl M_order (hr.mono (by decide)) (pa_cons (pv 6) pa_nil)) (pa_cons (pe_mk (pv 6) T.cl M_order (hr.mono (by decide)) (pk_cons (pv 5) pk_nil)) pa_nil))) pa_nil)) (pe_callB (cr_repr hg hr.units) (by rfl) T.repr (by decide +kernel) (pa_cons (pe_lst (pa_cons (pv 7) (pa_cons (pe_un un_neg (pv 7)) pa_nil))) pa_nil)) (nomark _)) (pss_one (ps_ret pe_bl)) pss_nil))) pss_nil))))))))))))))))))
      (pss_one (ps_ret pe_bl))), ?_⟩
    refine ⟨8, rfl, by decide, by decide, ?_⟩
    refine for_range (lo := 0) (n := Int.toNat 8) (fun i σ H' => (∃ v1 v2 v3 v4 v5 v6 v7 v8 v9 v10 v11, σ = [some (.ref c), v1, v2, v3, v4, v5, v6, v7, v8, v9, v10, v11]) ∧ But c H H' ∧ CupAt c H') ⟨⟨none, none, none, none, none, none, none, none, none, none, none, rfl⟩, But.refl _ _, hc⟩ ?_ ?_
    · rintro i σ H1 hi ⟨⟨v1, v2, v3, v4, v5, v6, v7, v8, v9, v10, v11, rfl⟩, b1, hc1⟩
      refine ⟨_, rfl, c, rfl, hc1, fun H2 q1 a b d b2 hc2 hq1 t1 => ⟨_, rfl, c, rfl, hc2, fun H3 q2 a' b' d' b3 hc3 hq2 t2 => ⟨_, _, rfl, ?_⟩⟩⟩
      have hq13 := b3.tup hc2 hq1
      have bb3 := (b1.trans b2).trans b3
      refine ⟨fun σ' H' => ∃ (p1 p2 : Addr) (a b d a' b' d' : Int) (z4 : Option V), σ' = [some (.ref c), some (.int (0 + i)), some (.ref p1), some (.ref p2), z4, v5, v6, v7, v8, v9, v10, v11] ∧ H' p1 = some (.tup [.int a, .int b, .int d]) ∧ H' p2 = some (.tup [.int a', .int b', .int d']) ∧ But c H H' ∧ CupAt c H' ∧ Big a b d ∧ Big a' b' d' ∧ (parts a b d = parts a' b' d' ∨ (Tiny a b d ∧ Tiny a' b' d')), ?_, ?_⟩
      · refine ⟨_, rfl, c, 4, rfl, hc3, by decide, (by unfold Sm; decide), fun H4 r4 b4 hc4 r0 r1 => ⟨rfl, _, rfl, ite2 (fun e => ?_) (fun e => ?_)⟩⟩
        · refine ⟨_, rfl, c, 5, rfl, hc4, by decide, (by unfold Sm; decide), fun H5 r5 b5 hc5 s0 s1 => ⟨_, _, rfl, rfl, ?_⟩⟩
          have hq15 := b5.tup hc4 (b4.tup hc3 hq13)
          have rs : Sm 10 (1 + r5) := sm_lt (by omega) (by show 1 + r5 < 1024; omega)
          obtain ⟨sa, sb, sd⟩ := t1.big.sm
          refine ⟨_, rfl, _, rfl, q1, _, _, _, rfl, rfl, SqT.of hq15, atI_nat (j := 0) rfl, _, _, rfl, rfl, mx rs sa, _, rfl, _, rfl, q1, _, _, _, rfl, rfl, SqT.of hq15, atI_nat (j := 1) rfl, _, _, rfl, rfl, mx rs sb, _, rfl, _, rfl, q1, _, _, _, rfl, rfl, SqT.of hq15, atI_nat (j := 2) rfl, _, _, rfl, rfl, mx rs sd, (by show 3 ≤ sizeLine; decide), fun qn hqn => ?_⟩
          have sn := same_upd (o := .tup [.int ((1 + r5) * a), .int ((1 + r5) * b), .int ((1 + r5) * d)]) hqn
          have gB : Good ((1 + r5) * a) ((1 + r5) * b) ((1 + r5) * d) := by
            rcases t1.good with ⟨rfl, g2, g3⟩ | ⟨g1, g2⟩
            · refine .inl ⟨Int.mul_zero _, ?_, Int.mul_nonneg (by omega) g3⟩
              have := Int.mul_le_mul (a := 1) (b := 1) (c := 1 + r5) (d := b) (by omega) (by omega) (by omega) (by omega)
              omega
            · refine .inr ⟨?_, ?_⟩
              · have := Int.mul_le_mul (a := 1) (b := 1) (c := 1 + r5) (d := a) (by omega) (by omega) (by omega) (by omega)
                omega
              · have := Int.mul_le_mul (a := 1) (b := 1) (c := 1 + r5) (d := d) (by omega) (by omega) (by omega) (by omega)
                omega
          have m1 := mul_ab (x := 1 + r5) (y := a) (X := 5) (Y := 60) (by omega) (by have := t1.nn; have := t1.ha; omega)
          have m2 := mul_ab (x := 1 + r5) (y := b) (X := 5) (Y := 61) (by omega) t1.hb
          have m3 := mul_ab (x := 1 + r5) (y := d) (X := 5) (Y := 60) (by omega) (by have := t1.nn; have := t1.hc; omega)
          exact ⟨q1, qn, a, b, d, _, _, _, _, rfl, sn _ _ hq15, upd_same, ((bb3.trans b4).trans b5).trans (But.of sn), hc5.same sn, t1.big, ⟨gB, by omega, by omega, by omega, by omega⟩, .inl (parts_prop t1.good gB (by grind) (by grind) (by grind))⟩
        · exact ⟨q1, q2, a, b, d, a', b', d', _, rfl, b4.tup hc3 hq13, b4.tup hc3 hq2, bb3.trans b4, hc4, t1.big, t2.big, .inr ⟨t1, t2⟩⟩
      rintro σ' H4 ⟨p1, p2, a, b, d, a', b', d', z4, rfl, hp1, hp2, bb4, hc4, B1, B2, tt⟩
      obtain ⟨w1, w2, w3⟩ := due_ok B1.1 B2.1 tt
      have dv := due_vals a b d a' b' d'
      -- the two numbers
      refine ⟨_, rfl, p1, _, _, _, rfl, rfl, SqT.of hp1, atI_nat (j := 0) rfl, _, rfl, p1, _, _, _, rfl, rfl, SqT.of hp1, atI_nat (j := 1) rfl, _, rfl, p1, _, _, _, rfl, rfl, SqT.of hp1, atI_nat (j := 2) rfl, fun x dx nx ndx nex => ⟨x, dx, a, b, d, rfl, upd_same, B1, fun H5 b5 hE => ⟨rfl, ?_⟩⟩⟩
      have s5 := made_but hc4 nx ndx b5
      have hp25 := s5 _ _ hp2
      refine ⟨_, rfl, p2, _, _, _, rfl, rfl, SqT.of hp25, atI_nat (j := 0) rfl, _, rfl, p2, _, _, _, rfl, rfl, SqT.of hp25, atI_nat (j := 1) rfl, _, rfl, p2, _, _, _, rfl, rfl, SqT.of hp25, atI_nat (j := 2) rfl, fun y dy ny ndy ney => ⟨y, dy, a', b', d', rfl, upd_same, B2, fun H6 b6 hE' => ⟨rfl, _, _, rfl, ?_⟩⟩⟩
      have s6 := made_but (hc4.same s5) ny ndy b6
      have hE6 := hE.same s6
      have s56 := s5.trans s6
      refine ⟨_, rfl, _, rfl, p1, p2, a, b, d, a', b', d', rfl, s56 _ _ hp1, s56 _ _ hp2, B1, B2, fun H7 s7 => ?_⟩
      have hEa := hE6.same s7
      have hEb := hE'.same s7
      have s567 := s56.trans s7
      obtain ⟨dxa, ppa, hxa, hppa⟩ := id hEa
      obtain ⟨dxb, ppb, hxb, hppb⟩ := id hEb
      obtain ⟨P1, P2, P3⟩ := B1.parts
      obtain ⟨Q1, Q2, Q3⟩ := B2.parts
      have oself : ord (parts a b d).1 (parts a b d).2.1 (parts a b d).2.2 (parts a b d).1 (parts a b d).2.1 (parts a b d).2.2 = 0 := ord_self (parts_nrm B1.1).good
      have o1 : ord (parts a b d).1 (parts a b d).2.1 (parts a b d).2.2 (parts a' b' d').1 (parts a' b' d').2.1 (parts a' b' d').2.2 = dueV a b d a' b' d' := w1
      have o2 : ord (parts a' b' d').1 (parts a' b' d').2.1 (parts a' b' d').2.2 (parts a b d).1 (parts a b d).2.1 (parts a b d).2.2 = -dueV a b d a' b' d' := w2
      generalize dueV a b d a' b' d' = D0 at *
      have Sh := shows3 dv
      refine ⟨_, rfl, x, dxa, _, rfl, hxa, lk_order _, _, rfl, x, y, _, _, _, _, _, _, rfl, hEa, hEb, P1, P2, P3, Q1, Q2, Q3, ?_⟩
      rw [o1]
      refine ⟨_, rfl, y, dxb, _, rfl, hxb, lk_order _, _, rfl, y, x, _, _, _, _, _, _, rfl, hEb, hEa, Q1, Q2, Q3, P1, P2, P3, ?_⟩
      rw [o2]
      refine ⟨_, rfl, x, dxa, _, rfl, hxa, lk_order _, _, rfl, x, x, _, _, _, _, _, _, rfl, hEa, hEa, P1, P2, P3, P1, P2, P3, ?_⟩
      rw [oself]
      refine ⟨(by show 3 ≤ sizeLine; decide), fun l1 hl1 => ?_⟩
      have n1 := same_upd (o := .lst [.int D0, .int (-D0), .int 0]) hl1
      refine ⟨l1, .list [.int D0, .int (-D0), .int 0], rfl, .lst (SqL.of upd_same) (.cons (.int _) (.cons (.int _) (.cons (.int _) .nil))), Sh.s, Sh.n, Sh.p, Sh.l, ?_⟩
      refine ⟨_, rfl, _, rfl, _, rfl, (by show 3 ≤ sizeLine; decide), fun l2 hl2 => ?_⟩
      have n2 := same_upd (o := .lst [.int D0, .int (-D0), .int 0]) hl2
      refine ⟨l2, .list [.int D0, .int (-D0), .int 0], rfl, .lst (SqL.of upd_same) (.cons (.int _) (.cons (.int _) (.cons (.int _) .nil))), Sh.s, Sh.n, Sh.p, Sh.l, rfl, _, rfl, ite2 (fun e => absurd e (ne_selfV _)) (fun _ => ?_)⟩
      have s8 := s567.trans (n1.trans n2)
      have n12 := n1.trans n2
      refine ⟨fun σ' H' => (∃ v1 v2 v3 v4 v5 v6 v7 v8 v9 v10 v11, σ' = [some (.ref c), v1, v2, v3, v4, v5, v6, v7, v8, v9, v10, v11]) ∧ But c H H' ∧ CupAt c H', ?_, ?_⟩
      · refine ⟨_, rfl, _, rfl, x, dxa, _, _, rfl, n12 _ _ hxa, .base (.ins (n12 _ _ hxb) T.cl I.ca I.cn I.ct I.cm), I.nf, x, y, _, _, _, _, _, _, rfl, hEa.same n12, hEb.same n12, ?_⟩
        refine ⟨_, rfl, rfl, rfl, _, rfl, ite2 (fun e => ?_) (fun _ => ?_)⟩
        · refine absurd e ?_
          have e1 : decide (((parts a b d).1, (parts a b d).2.1, (parts a b d).2.2) = ((parts a' b' d').1, (parts a' b' d').2.1, (parts a' b' d').2.2)) = decide (V.int D0 = V.int 0) := by
            rw [Bool.eq_iff_iff, decide_eq_true_iff, decide_eq_true_iff]
            exact ⟨fun z => congrArg V.int (w3.mpr z), fun z => w3.mp (V.int.inj z)⟩
          rw [e1]
          exact ne_selfV _
        · exact ⟨⟨_, _, _, _, _, _, _, _, _, _, _, rfl⟩, bb4.trans (But.of s8), hc4.same s8⟩
      rintro σ' H8 ⟨⟨v1, v2, v3, v4, v5, v6, v7, v8, v9, v10, v11, rfl⟩, bb8, hc8⟩
      -- k
      have e6 : (10 : Int) ^ Int.toNat 6 = 1000000 := by decide
      have e13 : (10 : Int) ^ Int.toNat 13 = 10000000000000 := by decide
      refine ⟨_, rfl, _, _, rfl, rfl, ⟨by decide, by decide, by decide⟩, c, _, rfl, hc8, by decide, (by unfold Sm; decide), fun H9 r1 b9 hc9 r10 r11 => ⟨_, _, rfl, rfl, ?_⟩⟩
      refine ⟨_, rfl, _, _, rfl, rfl, ⟨by decide, by decide, by decide⟩, _, _, rfl, rfl, ⟨by decide, by decide, by decide⟩, (by show 3 ≤ sizeLine; decide), fun l hl => ?_⟩
      have sl := same_upd (o := .lst [.int 1, .int (10 ^ Int.toNat 6), .int (10 ^ Int.toNat 13)]) hl
      refine ⟨c, l, _, rfl, hc9.same sl, hc9.ne hl, upd_same, by decide, by decide, fun Ha v ba hca hv => ?_⟩
      obtain ⟨mm, rfl, wl, wh⟩ : ∃ mm : Int, v = .int mm ∧ 1 ≤ mm ∧ mm ≤ 10000000000000 := by
        simp only [List.mem_cons, List.not_mem_nil, or_false] at hv
        rcases hv with rfl | rfl | rfl
        · exact ⟨_, rfl, by omega, by omega⟩
        · exact ⟨_, rfl, by omega, by omega⟩
        · exact ⟨_, rfl, by omega, by omega⟩
      have sm64 : ∀ {z : Int}, 0 ≤ z → z ≤ 10000000000001000000 → Sm 64 z := fun h0 h1 => sm_lt h0 (Int.lt_of_le_of_lt h1 (by decide))
      have km := mul_ab (x := 1 + r1) (y := mm) (X := 1000000) (Y := 10000000000000) (by omega) (by omega)
      have kp := Int.mul_le_mul (a := 1) (b := 1) (c := 1 + r1) (d := mm) (by omega) (by omega) (by omega) (by omega)
      refine ⟨_, _, rfl, rfl, mx (sm64 (by omega) (by omega)) (sm64 (by omega) (by omega)), ?_⟩
      refine ⟨_, rfl, _, _, rfl, rfl, ⟨by decide, by decide, by decide⟩, c, _, rfl, hca, by decide, (by unfold Sm; decide), fun Hb r2 bb hcb r20 r21 => ⟨_, _, rfl, rfl, ?_⟩⟩
      have bbB := ((bb8.trans b9).trans ((But.of sl).trans ba)).trans bb
      have k1 : 1 ≤ (1 + r1) * mm + r2 := by omega
      have k2 : (1 + r1) * mm + r2 ≤ 10000000000001000000 := by omega
      dsimp only
      generalize (1 + r1) * mm + r2 = kk at *
      have ks : Sm 64 kk := sm64 (by omega) k2
      have kq := mul_ab (x := kk) (y := kk) (X := 10000000000001000000) (Y := 10000000000001000000) (by omega) (by omega)
      have k4 : 4 * kk * kk = 4 * (kk * kk) := by grind
      have kn := sq_nn kk
      have s4k : Sm 67 (4 * kk) := Sm.mul (m := 3) (n := 64) (x := 4) (by unfold Sm; decide) ks
      have m2 : Sm 3 (-2) := by unfold Sm; decide
      -- the two roots beside one another
      refine ⟨_, rfl, _, rfl, _, _, rfl, rfl, mx m2 ks, fun x dx nx ndx nex => ⟨x, dx, 1, -2 * kk, 1, rfl, upd_same, ⟨.inr ⟨by decide, by decide⟩, by decide, by omega, by omega, by decide⟩, fun Hc bc hE => ⟨rfl, ?_⟩⟩⟩
      have sc1 := made_but hcb nx ndx bc
      refine ⟨_, rfl, _, _, rfl, rfl, .inl ⟨by decide, by decide⟩, _, rfl, _, _, rfl, rfl, mx s4k ks, _, _, rfl, rfl, fun y dy ny ndy ney => ⟨y, dy, 1, 0, 4 * kk * kk + 2, rfl, upd_same, ⟨.inr ⟨by decide, by omega⟩, by decide, by decide, by decide, by omega⟩, fun Hd bd hE' => ⟨rfl, _, _, rfl, ?_⟩⟩⟩
      have sd1 := made_but (hcb.same sc1) ny ndy bd
      have hEa := hE.same sd1
      rw [near1 k1] at hEa
      rw [near2 k1] at hE'
      obtain ⟨dxa, ppa, hxa, hppa⟩ := id hEa
      obtain ⟨dxb, ppb, hxb, hppb⟩ := id hE'
      obtain ⟨n1, n2⟩ := near_ord k1
      have one : Sm 200 1 := (show Sm 2 1 by unfold Sm; decide).mono (by decide)
      have zero : Sm 200 0 := (show Sm 2 0 by unfold Sm; decide).mono (by decide)
      have kl : Sm 200 (-2 * kk) := (m2.mul ks).mono (by decide)
      have kw : Sm 200 (4 * kk * kk + 2) := (Sm.add (n := 131) (s4k.mul ks) ((show Sm 2 2 by unfold Sm; decide).mono (by decide))).mono (by decide)
      refine ⟨fun σ' H' => (∃ v1 v2 v3 v4 v5 v6 v7 v8 v9 v10 v11, σ' = [some (.ref c), v1, v2, v3, v4, v5, v6, v7, v8, v9, v10, v11]) ∧ But c H H' ∧ CupAt c H', ?_, ?_⟩
      · skip
        refine ⟨_, rfl, x, dxa, _, rfl, hxa, lk_order _, _, rfl, x, y, _, _, _, _, _, _, rfl, hEa, hE', one, kl, one, one, zero, kw, ?_⟩
        rw [show ord (1, -2 * kk, (1 : Int)).1 (1, -2 * kk, (1 : Int)).2.1 (1, -2 * kk, (1 : Int)).2.2 (1, (0 : Int), 4 * kk * kk + 2).1 (1, (0 : Int), 4 * kk * kk + 2).2.1 (1, (0 : Int), 4 * kk * kk + 2).2.2 = -1 from n1]
        refine ⟨_, rfl, y, dxb, _, rfl, hxb, lk_order _, _, rfl, y, x, _, _, _, _, _, _, rfl, hE', hEa, one, zero, kw, one, kl, one, ?_⟩
        rw [show ord (1, (0 : Int), 4 * kk * kk + 2).1 (1, (0 : Int), 4 * kk * kk + 2).2.1 (1, (0 : Int), 4 * kk * kk + 2).2.2 (1, -2 * kk, (1 : Int)).1 (1, -2 * kk, (1 : Int)).2.1 (1, -2 * kk, (1 : Int)).2.2 = 1 from n2]
        have Sh2 := shows2 (z := -1) (.inl rfl)
        refine ⟨(by show 2 ≤ sizeLine; decide), fun l1 hl1 => ?_⟩
        have u1 := same_upd (o := .lst [.int (-1), .int 1]) hl1
        refine ⟨l1, .list [.int (-1), .int 1], rfl, .lst (SqL.of upd_same) (.cons (.int _) (.cons (.int _) .nil)), Sh2.s, Sh2.n, Sh2.p, Sh2.l, ?_⟩
        refine ⟨1, rfl, (by show 2 ≤ sizeLine; decide), fun l2 hl2 => ?_⟩
        have u2 := same_upd (o := .lst [.int (-1), .int 1]) hl2
        refine ⟨l2, .list [.int (-1), .int 1], rfl, .lst (SqL.of upd_same) (.cons (.int _) (.cons (.int _) .nil)), Sh2.s, Sh2.n, Sh2.p, Sh2.l, rfl, _, rfl, ite2 (fun e => absurd e (ne_selfV _)) (fun _ => ?_)⟩
        have sx := (sc1.trans sd1).trans (u1.trans u2)
        exact ⟨⟨_, _, _, _, _, _, _, _, _, _, _, rfl⟩, bbB.trans (But.of sx), hcb.same sx⟩
      rintro σ' H9 ⟨⟨v1, v2, v3, v4, v5, v6, v7, v8, v9, v10, v11, rfl⟩, bb9, hc9⟩
      -- a number and the fractions beside it
      refine ⟨_, rfl, c, rfl, hc9, fun Ha p a b d ba hca hp hB => ?_⟩
      have e15 : (10 : Int) ^ Int.toNat 15 = 1000000000000000 := by decide
      have e39 : (10 : Int) ^ Int.toNat 39 = 1000000000000000000000000000000000000000 := by decide
      have e40 : (10 : Int) ^ Int.toNat 40 = 10000000000000000000000000000000000000000 := by decide
      refine ⟨_, rfl, _, _, rfl, rfl, ⟨by decide, by decide, by decide⟩, _, _, rfl, rfl, ⟨by decide, by decide, by decide⟩, (by show 4 ≤ sizeLine; decide), fun l hl => ?_⟩
      have sl := same_upd (o := .lst [.int 1, .int 7, .int (10 ^ Int.toNat 15), .int (10 ^ Int.toNat 39)]) hl
      refine ⟨c, l, _, rfl, hca.same sl, hca.ne hl, upd_same, by decide, by decide, fun Hb v bb hcb hv => ?_⟩
      obtain ⟨by1, rfl, wl, wh⟩ : ∃ mm : Int, v = .int mm ∧ 1 ≤ mm ∧ mm ≤ 1000000000000000000000000000000000000000 := by
        simp only [List.mem_cons, List.not_mem_nil, or_false] at hv
        rcases hv with rfl | rfl | rfl | rfl
        · exact ⟨_, rfl, by omega, by omega⟩
        · exact ⟨_, rfl, by omega, by omega⟩
        · exact ⟨_, rfl, by omega, by omega⟩
        · exact ⟨_, rfl, by omega, by omega⟩
      have hpb := bb.tup (hca.same sl) (sl _ _ hp)
      have bbB := (bb9.trans ba).trans ((But.of sl).trans bb)
      obtain ⟨sa, sb, sd⟩ := hB.sm
      obtain ⟨P1, P2, P3⟩ := hB.parts
      have N := parts_nrm hB.1
      refine ⟨_, rfl, p, _, _, _, rfl, rfl, SqT.of hpb, atI_nat (j := 0) rfl, _, rfl, p, _, _, _, rfl, rfl, SqT.of hpb, atI_nat (j := 1) rfl, _, rfl, p, _, _, _, rfl, rfl, SqT.of hpb, atI_nat (j := 2) rfl, fun x dx nx ndx nex => ⟨x, dx, a, b, d, rfl, upd_same, hB, fun Hc bc hE => ⟨rfl, ?_⟩⟩⟩
      have sc1 := made_but hcb nx ndx bc
      obtain ⟨dxc, ppc, hxc, hppc⟩ := id hE
      refine ⟨_, rfl, x, dxc, _, rfl, hxc, lk_floor _, _, rfl, x, _, _, _, by1, rfl, hE, N.good, P1.mono (by decide), P2.mono (by decide), P3.mono (by decide), wl, by omega, fun Hd sd1 => ?_⟩
      have fl := (flo_is N.good wl).1
      have fs := flo_sm N.good (P1.mono (by decide)) (P2.mono (by decide)) (P3.mono (by decide)) wl (smt wl (by omega))
      generalize flo (parts a b d).1 (parts a b d).2.1 (parts a b d).2.2 by1 = at1 at *
      have s1d := sc1.trans sd1
      refine ⟨2, rfl, by decide, by decide, ?_⟩
      refine for_range (lo := 0) (n := Int.toNat 2) (fun j σ H' => (∃ z6 z7 z11, σ = [some (.ref c), v1, v2, v3, some (.int by1), some (.ref x), z6, z7, v8, some (.ref p), some (.int at1), z11]) ∧ Same Hd H') ⟨⟨_, _, _, rfl⟩, Same.refl _⟩ ?_ ?_
      · rintro j σ He hj ⟨⟨z6, z7, z11, rfl⟩, se⟩
        have hj2 : j < 2 := hj
        refine ⟨_, rfl, _, rfl, _, _, rfl, rfl, _, _, rfl, rfl, ⟨by decide, by decide, by decide⟩, _, _, rfl, rfl, _, rfl, ite2 (fun e => ?_) (fun e => ?_)⟩
        · have e0 : at1 + (0 + (j : Int)) ≤ 10 ^ Int.toNat 40 := of_decide_eq_true e
          refine ⟨_, rfl, _, rfl, _, rfl, _, _, rfl, rfl, fun y dy ny ndy ney => ⟨y, dy, 0, by1, at1 + (0 + (j : Int)), rfl, upd_same, ⟨.inl ⟨rfl, wl, by omega⟩, by decide, by omega, by omega, by omega⟩, fun Hf bf hE' => ⟨rfl, ?_⟩⟩⟩
          have hce := (hcb.same s1d).same se
          have sf := made_but hce ny ndy bf
          have pF := s1d.trans (se.trans sf)
          have jS : Sm 950 (0 + (j : Int)) := (sm_lt (n := 2) (by omega) (by show (0 : Int) + (j : Int) < 4; omega)).mono (by decide)
          have aS : Sm 1000 (at1 + (0 + (j : Int))) := (fs.add jS).mono (by decide)
          refine ⟨_, rfl, _, rfl, _, rfl, _, _, rfl, rfl, _, rfl, (by show 2 ≤ sizeLine; decide), fun q hq => ?_⟩
          have sq := same_upd (o := .tup [.int (at1 + (0 + (j : Int))), .int by1]) hq
          refine ⟨p, q, a, b, d, at1 + (0 + (j : Int)), by1, rfl, (pF.trans sq) _ _ hpb, upd_same, sa.mono (by decide), sb.mono (by decide), sd.mono (by decide), aS, (smt wl (by omega)).mono (by decide), _, _, rfl, ?_⟩
          have hEa := hE.same ((sd1.trans (se.trans sf)).trans sq)
          have hEb := hE'.same sq
          obtain ⟨dxa, ppa, hxa, hppa⟩ := id hEa
          obtain ⟨dxb, ppb, hxb, hppb⟩ := id hEb
          obtain ⟨w1, w2⟩ := ord_frac (y := by1) (v := at1 + (0 + (j : Int))) hB.1 wl (by omega)
          have bF : Big 0 by1 (at1 + (0 + (j : Int))) := ⟨.inl ⟨rfl, wl, by omega⟩, by decide, by omega, by omega, by omega⟩
          obtain ⟨Q1, Q2, Q3⟩ := bF.parts
          have sv := side_vals a b d (at1 + (0 + (j : Int))) by1
          have o1 : ord (parts a b d).1 (parts a b d).2.1 (parts a b d).2.2 (parts 0 by1 (at1 + (0 + (j : Int)))).1 (parts 0 by1 (at1 + (0 + (j : Int)))).2.1 (parts 0 by1 (at1 + (0 + (j : Int)))).2.2 = side a b d (at1 + (0 + (j : Int))) by1 := w1
          have o2 : ord (parts 0 by1 (at1 + (0 + (j : Int)))).1 (parts 0 by1 (at1 + (0 + (j : Int)))).2.1 (parts 0 by1 (at1 + (0 + (j : Int)))).2.2 (parts a b d).1 (parts a b d).2.1 (parts a b d).2.2 = -side a b d (at1 + (0 + (j : Int))) by1 := w2
          generalize side a b d (at1 + (0 + (j : Int))) by1 = D0 at *
          have Sh := shows2 sv
          refine ⟨_, rfl, x, dxa, _, rfl, hxa, lk_order _, _, rfl, x, y, _, _, _, _, _, _, rfl, hEa, hEb, P1, P2, P3, Q1, Q2, Q3, ?_⟩
          rw [o1]
          refine ⟨_, rfl, y, dxb, _, rfl, hxb, lk_order _, _, rfl, y, x, _, _, _, _, _, _, rfl, hEb, hEa, Q1, Q2, Q3, P1, P2, P3, ?_⟩
          rw [o2]
          refine ⟨(by show 2 ≤ sizeLine; decide), fun l1 hl1 => ?_⟩
          have u1 := same_upd (o := .lst [.int D0, .int (-D0)]) hl1
          refine ⟨l1, .list [.int D0, .int (-D0)], rfl, .lst (SqL.of upd_same) (.cons (.int _) (.cons (.int _) .nil)), Sh.s, Sh.n, Sh.p, Sh.l, ?_⟩
          refine ⟨_, rfl, _, rfl, _, rfl, (by show 2 ≤ sizeLine; decide), fun l2 hl2 => ?_⟩
          have u2 := same_upd (o := .lst [.int D0, .int (-D0)]) hl2
          refine ⟨l2, .list [.int D0, .int (-D0)], rfl, .lst (SqL.of upd_same) (.cons (.int _) (.cons (.int _) .nil)), Sh.s, Sh.n, Sh.p, Sh.l, rfl, _, rfl, ite2 (fun e => absurd e (ne_selfV _)) (fun _ => ?_)⟩
          exact ⟨⟨_, _, _, rfl⟩, (se.trans sf).trans (sq.trans (u1.trans u2))⟩
        · exact ⟨⟨_, _, _, rfl⟩, se⟩
      · rintro σ He ⟨⟨z6, z7, z11, rfl⟩, se⟩
        exact ⟨⟨_, _, _, _, _, _, _, _, _, _, _, rfl⟩, bbB.trans (But.of (s1d.trans se)), hcb.same (s1d.trans se)⟩
    · rintro σ H' ⟨⟨v1, v2, v3, v4, v5, v6, v7, v8, v9, v10, v11, rfl⟩, b1, hc1⟩
      exact k _ b1
end
end RL

namespace RL
open PySem L2
def spLaw (K : PySem.W.Frag) : Sp := fun vs H Q _ => ∃ (a : Addr) (ns : List Int), vs = [.ref a] ∧ SqL K H a (ns.map V.int) ∧ ns.length ≤ 63 ∧ ∀ H', Q (.bl true) H'
theorem made_s {H H1 : Hp} {x dx C : Addr} (nx : H x = none) (ndx : H dx = none) (b : But x (upd (upd H dx (.own x)) x (.ins C dx [])) H1) : Same H H1 := fun y o e =>
  b _ _ (ne_of_none e nx) (by rw [upd_ne (ne_of_none e nx), upd_ne (ne_of_none e ndx)]; exact e)
theorem p_1_m1_1 : parts 1 (-1) 1 = (1, -1, 1) := by decide
theorem p_1_0_3 : parts 1 0 3 = (1, 0, 3) := by decide
theorem p_1_0_2 : parts 1 0 2 = (1, 0, 2) := by decide
theorem p_2_0_4 : parts 2 0 4 = (1, 0, 2) := by decide
theorem p_1_m2_1 : parts 1 (-2) 1 = (1, -2, 1) := by decide
theorem p_1_0_6 : parts 1 0 6 = (1, 0, 6) := by decide
theorem p_0_1_2 : parts 0 1 2 = (0, 1, 2) := by decide
theorem seq_but {K : PySem.W.Frag} {H H' : Hp} {D a : Addr} {xs : List V} (h : SqL K H a xs) (n : H D = none) (b : But D H H') : SqL K H' a xs := by
  rcases h with (h | ⟨o, h⟩) | h
  · exact .inl (.inl (b _ _ (ne_of_none h n) h))
  · exact .inl (.inr ⟨o, b _ _ (ne_of_none h n) h⟩)
  · exact .inr h
section
variable {P : Program} {w : World} {K : PySem.W.Frag} {mg : Str → Option Value} {base : Heap} {tP : Tok} {C : Addr}
abbrev s_law : Stmt := top 36
theorem sc_law : FnScope ["_law_script", "_law_told", "_law_spot"] ["_law_script"] (defScope s_law) := ⟨rfl, rfl, rfl, by decide +kernel, rfl, by decide +kernel, by decide +kernel⟩

set_option maxHeartbeats 1000000 in
theorem ok_law {f : Addr} {fd : FuncData} (F : Fun K "law" "law" s_law f fd) (T : Txt2 K mg tP C) (X_exact : ExD P w K mg base C) (M_order : Mt P w K mg base C 5 "order" "self" "other" (spOrder C))
    (D_law_cup : Df P w K mg base 1 "_law_cup" ["_law_script", "_law_spot"] (spCup K)) (D_law_right : DfG P w K mg base 7 "_law_right" ["_law_cup_here"] spRight) : FnG P w K mg base 8 f fd ["_law_script"] (spLaw K) := by
  refine okG F sc_law (fun vs H Q E h => ?_) (fun cdv A outer s H vs Q E hg hr h => ?_)
  · obtain ⟨a, ns, rfl, _⟩ := h
    rfl
  · obtain ⟨a, ns, rfl, hS, hlen, k⟩ := h
    refine ⟨_, (pss_cons (ps_set (i := 1) sc_law.nd rfl (.inl rfl) (pe_lst (pa_cons (pe_dm (pe_exact X_exact (hr.mono (by decide)) rfl T.mgC (pa_cons pe_int (pa_cons (pe_un un_neg pe_int) (pa_cons pe_int pa_nil)))) T.cl M_order (hr.mono (by decide)) (pa_cons (pe_exact X_exact (hr.mono (by decide)) rfl T.mgC (pa_cons pe_int (pa_cons pe_int (pa_cons pe_int pa_nil)))) pa_nil)) (pa_cons (pe_dm (pe_exact X_exact (hr.mono (by decide)) rfl T.mgC (pa_cons pe_int (pa_cons pe_int (pa_cons pe_int pa_nil)))) T.cl M_order (hr.mono (by decide)) (pa_cons (pe_exact X_exact (hr.mono (by decide)) rfl T.mgC (pa_cons pe_int (pa_cons (pe_un un_neg pe_int) (pa_cons pe_int pa_nil)))) pa_nil)) pa_nil))))
      (pss_cons (ps_set (i := 1) sc_law.nd rfl (.inl rfl) (pe_op op_cat (pv 1) (pe_lst (pa_cons (pe_dm (pe_exact X_exact (hr.mono (by decide)) rfl T.mgC (pa_cons pe_int (pa_cons pe_int (pa_cons pe_int pa_nil)))) T.cl M_order (hr.mono (by decide)) (pa_cons (pe_exact X_exact (hr.mono (by decide)) rfl T.mgC (pa_cons pe_int (pa_cons pe_int (pa_cons pe_int pa_nil)))) pa_nil)) (pa_cons (pe_dm (pe_exact X_exact (hr.mono (by decide)) rfl T.mgC (pa_cons pe_int (pa_cons pe_int (pa_cons pe_int pa_nil)))) T.cl M_order (hr.mono (by decide)) (pa_cons (pe_exact X_exact (hr.mono (by decide)) rfl T.mgC (pa_cons pe_int (pa_cons pe_int (pa_cons pe_int pa_nil)))) pa_nil)) pa_nil)))))
      (pss_cons (ps_set (i := 1) sc_law.nd rfl (.inl rfl) (pe_op op_cat (pv 1) (pe_lst (pa_cons (pe_dm (pe_exact X_exact (hr.mono (by decide)) rfl T.mgC (pa_cons pe_int (pa_cons (pe_un un_neg pe_int) (pa_cons pe_int pa_nil)))) T.cl M_order (hr.mono (by decide)) (pa_cons (pe_exact X_exact (hr.mono (by decide)) rfl T.mgC (pa_cons pe_int (pa_cons pe_int (pa_cons pe_int pa_nil)))) pa_nil)) (pa_cons (pe_dm (pe_exact X_exact (hr.mono (by decide)) rfl T.mgC (pa_cons pe_int (pa_cons pe_int (pa_cons pe_int pa_nil)))) T.cl M_order (hr.mono (by decide)) (pa_cons (pe_exact X_exact (hr.mono (by decide)) rfl T.mgC (pa_cons pe_int (pa_cons pe_int (pa_cons pe_int pa_nil)))) pa_nil)) pa_nil)))))
      (pss_cons (ps_if (pt_cmpR (op_neD hr.units) (pv 1) (pe_lst (pa_cons (pe_un un_neg pe_int) (pa_cons pe_int (pa_cons pe_int (pa_cons (pe_un un_neg pe_int) (pa_cons (pe_un un_neg pe_int) (pa_cons pe_int pa_nil))))))) (nomark _)) (pss_one (ps_ret pe_bl)) pss_nil)
      (pss_one (ps_ret (pe_callB (cr_all rfl) (by rfl) T.all (by decide +kernel) (pa_cons (pe_lc (own := [("_law_spot", 2)]) (g := gName 2) (tt := tYes) rfl sc_law.nd (pi_range1 rfl T.range (pa_cons (pe_callB (call_max2 rfl) (by rfl) T.max (by decide +kernel) (pa_cons pe_int (pa_cons (pe_callB (call_min2 rfl) (by rfl) T.min (by decide +kernel) (pa_cons (pe_callB call_len_seq (by rfl) T.len (by decide +kernel) (pa_cons (pv 0) pa_nil)) (pa_cons pe_int pa_nil))) pa_nil))) pa_nil)) (blkOk_by (N := ["_law_script", "_law_told", "_law_spot"]) (sc := defScope s_law) (by decide +kernel)) (fun _ _ _ _ _ => pg_name (i := 2) sc_law.nd rfl (Or.inl rfl)) (fun _ _ _ _ _ => pts_nil) (fun _ _ _ _ _ => (pe_dfG D_law_right hg (hr.mono (by decide)) (by rfl) (pa_cons (pe_df D_law_cup (hr.mono (by decide)) (by rfl) (pa_cons (pv 0) (pa_cons (pv 2) pa_nil))) pa_nil)))) pa_nil)))))))), ?_⟩
    have sk : ∀ n : Nat, n < 8 → Sm 200 (n : Int) ∧ Sm 200 (-(n : Int)) := fun n hn => by
      have q : Sm 4 (n : Int) ∧ Sm 4 (-(n : Int)) := by unfold Sm; omega
      exact ⟨q.1.mono (by decide), q.2.mono (by decide)⟩
    have s_0 := Same.refl H
    refine ⟨1, rfl, fun xa0 da0 nxa0 nda0 nea0 => ⟨xa0, da0, 1, -1, 1, rfl, upd_same, ⟨.inr ⟨by decide, by decide⟩, by decide, by decide, by decide, by decide⟩, fun Ha0 ba0 hEa0 => ⟨rfl, ?_⟩⟩⟩
    have s_a0 := s_0.trans (made_s nxa0 nda0 ba0)
    rw [p_1_m1_1] at hEa0
    obtain ⟨dxa0, ppa0, hxa0, hppa0⟩ := id hEa0
    refine ⟨xa0, dxa0, _, rfl, hxa0, lk_order _, ?_⟩
    refine fun xb0 db0 nxb0 ndb0 neb0 => ⟨xb0, db0, 1, 0, 3, rfl, upd_same, ⟨.inr ⟨by decide, by decide⟩, by decide, by decide, by decide, by decide⟩, fun Hb0 bb0 hEb0 => ⟨rfl, ?_⟩⟩
    have s_b0 := s_a0.trans (made_s nxb0 ndb0 bb0)
    rw [p_1_0_3] at hEb0
    refine ⟨xa0, xb0, _, _, _, _, _, _, rfl, hEa0.same (made_s nxb0 ndb0 bb0), hEb0, (sk 1 (by decide)).1, (sk 1 (by decide)).2, (sk 1 (by decide)).1, (sk 1 (by decide)).1, (sk 0 (by decide)).1, (sk 3 (by decide)).1, ?_⟩
    refine fun xa1 da1 nxa1 nda1 nea1 => ⟨xa1, da1, 1, 0, 3, rfl, upd_same, ⟨.inr ⟨by decide, by decide⟩, by decide, by decide, by decide, by decide⟩, fun Ha1 ba1 hEa1 => ⟨rfl, ?_⟩⟩
    have s_a1 := s_b0.trans (made_s nxa1 nda1 ba1)
    rw [p_1_0_3] at hEa1
    obtain ⟨dxa1, ppa1, hxa1, hppa1⟩ := id hEa1
    refine ⟨xa1, dxa1, _, rfl, hxa1, lk_order _, ?_⟩
    refine ⟨1, rfl, fun xb1 db1 nxb1 ndb1 neb1 => ⟨xb1, db1, 1, -1, 1, rfl, upd_same, ⟨.inr ⟨by decide, by decide⟩, by decide, by decide, by decide, by decide⟩, fun Hb1 bb1 hEb1 => ⟨rfl, ?_⟩⟩⟩
    have s_b1 := s_a1.trans (made_s nxb1 ndb1 bb1)
    rw [p_1_m1_1] at hEb1
    refine ⟨xa1, xb1, _, _, _, _, _, _, rfl, hEa1.same (made_s nxb1 ndb1 bb1), hEb1, (sk 1 (by decide)).1, (sk 0 (by decide)).1, (sk 3 (by decide)).1, (sk 1 (by decide)).1, (sk 1 (by decide)).2, (sk 1 (by decide)).1, ?_⟩
    refine ⟨(by show 2 ≤ sizeLine; decide), fun l1 hl1 => ?_⟩
    have n1 := fun o => same_upd (o := o) hl1
    have s_l1 := s_b1.trans (n1 (.lst [.int (-1), .int (1)]))
    have hL1 : (upd Hb1 l1 (.lst [.int (-1), .int (1)])) l1 = some (.lst [.int (-1), .int (1)]) := upd_same
    refine ⟨_, rfl, ?_⟩
    refine fun xa2 da2 nxa2 nda2 nea2 => ⟨xa2, da2, 1, 0, 2, rfl, upd_same, ⟨.inr ⟨by decide, by decide⟩, by decide, by decide, by decide, by decide⟩, fun Ha2 ba2 hEa2 => ⟨rfl, ?_⟩⟩
    have s_a2 := s_l1.trans (made_s nxa2 nda2 ba2)
    rw [p_1_0_2] at hEa2
    obtain ⟨dxa2, ppa2, hxa2, hppa2⟩ := id hEa2
    refine ⟨xa2, dxa2, _, rfl, hxa2, lk_order _, ?_⟩
    refine fun xb2 db2 nxb2 ndb2 neb2 => ⟨xb2, db2, 2, 0, 4, rfl, upd_same, ⟨.inr ⟨by decide, by decide⟩, by decide, by decide, by decide, by decide⟩, fun Hb2 bb2 hEb2 => ⟨rfl, ?_⟩⟩
    have s_b2 := s_a2.trans (made_s nxb2 ndb2 bb2)
    rw [p_2_0_4] at hEb2
    refine ⟨xa2, xb2, _, _, _, _, _, _, rfl, hEa2.same (made_s nxb2 ndb2 bb2), hEb2, (sk 1 (by decide)).1, (sk 0 (by decide)).1, (sk 2 (by decide)).1, (sk 1 (by decide)).1, (sk 0 (by decide)).1, (sk 2 (by decide)).1, ?_⟩
    refine fun xa3 da3 nxa3 nda3 nea3 => ⟨xa3, da3, 1, 0, 2, rfl, upd_same, ⟨.inr ⟨by decide, by decide⟩, by decide, by decide, by decide, by decide⟩, fun Ha3 ba3 hEa3 => ⟨rfl, ?_⟩⟩
    have s_a3 := s_b2.trans (made_s nxa3 nda3 ba3)
    rw [p_1_0_2] at hEa3
    obtain ⟨dxa3, ppa3, hxa3, hppa3⟩ := id hEa3
    refine ⟨xa3, dxa3, _, rfl, hxa3, lk_order _, ?_⟩
    refine fun xb3 db3 nxb3 ndb3 neb3 => ⟨xb3, db3, 1, 0, 3, rfl, upd_same, ⟨.inr ⟨by decide, by decide⟩, by decide, by decide, by decide, by decide⟩, fun Hb3 bb3 hEb3 => ⟨rfl, ?_⟩⟩
    have s_b3 := s_a3.trans (made_s nxb3 ndb3 bb3)
    rw [p_1_0_3] at hEb3
    refine ⟨xa3, xb3, _, _, _, _, _, _, rfl, hEa3.same (made_s nxb3 ndb3 bb3), hEb3, (sk 1 (by decide)).1, (sk 0 (by decide)).1, (sk 2 (by decide)).1, (sk 1 (by decide)).1, (sk 0 (by decide)).1, (sk 3 (by decide)).1, ?_⟩
    refine ⟨(by show 2 ≤ sizeLine; decide), fun l3 hl3 => ?_⟩
    have n3 := fun o => same_upd (o := o) hl3
    have since3 := (made_s nxa2 nda2 ba2).trans ((made_s nxb2 ndb2 bb2).trans ((made_s nxa3 nda3 ba3).trans (made_s nxb3 ndb3 bb3)))
    have t3 : Same _ (upd Hb3 l3 (.lst [.int (0), .int (-1)])) := same_upd hl3
    have old3 := t3 _ _ ((since3) _ _ hL1)
    refine ⟨l1, l3, _, _, rfl, rfl, old3, upd_same, (by show 4 ≤ sizeLine; decide), fun m3 hm3 => ?_⟩
    have s_m3 := (s_b3.trans t3).trans (same_upd (o := .lst [.int (-1), .int (1), .int (0), .int (-1)]) hm3)
    have hM3 : (upd (upd Hb3 l3 (.lst [.int (0), .int (-1)])) m3 (.lst [.int (-1), .int (1), .int (0), .int (-1)])) m3 = some (.lst [.int (-1), .int (1), .int (0), .int (-1)]) := upd_same
    refine ⟨_, rfl, ?_⟩
    refine ⟨2, rfl, fun xa4 da4 nxa4 nda4 nea4 => ⟨xa4, da4, 1, -2, 1, rfl, upd_same, ⟨.inr ⟨by decide, by decide⟩, by decide, by decide, by decide, by decide⟩, fun Ha4 ba4 hEa4 => ⟨rfl, ?_⟩⟩⟩
    have s_a4 := s_m3.trans (made_s nxa4 nda4 ba4)
    rw [p_1_m2_1] at hEa4
    obtain ⟨dxa4, ppa4, hxa4, hppa4⟩ := id hEa4
    refine ⟨xa4, dxa4, _, rfl, hxa4, lk_order _, ?_⟩
    refine fun xb4 db4 nxb4 ndb4 neb4 => ⟨xb4, db4, 1, 0, 6, rfl, upd_same, ⟨.inr ⟨by decide, by decide⟩, by decide, by decide, by decide, by decide⟩, fun Hb4 bb4 hEb4 => ⟨rfl, ?_⟩⟩
    have s_b4 := s_a4.trans (made_s nxb4 ndb4 bb4)
    rw [p_1_0_6] at hEb4
    refine ⟨xa4, xb4, _, _, _, _, _, _, rfl, hEa4.same (made_s nxb4 ndb4 bb4), hEb4, (sk 1 (by decide)).1, (sk 2 (by decide)).2, (sk 1 (by decide)).1, (sk 1 (by decide)).1, (sk 0 (by decide)).1, (sk 6 (by decide)).1, ?_⟩
    refine fun xa5 da5 nxa5 nda5 nea5 => ⟨xa5, da5, 1, 0, 6, rfl, upd_same, ⟨.inr ⟨by decide, by decide⟩, by decide, by decide, by decide, by decide⟩, fun Ha5 ba5 hEa5 => ⟨rfl, ?_⟩⟩
    have s_a5 := s_b4.trans (made_s nxa5 nda5 ba5)
    rw [p_1_0_6] at hEa5
    obtain ⟨dxa5, ppa5, hxa5, hppa5⟩ := id hEa5
    refine ⟨xa5, dxa5, _, rfl, hxa5, lk_order _, ?_⟩
    refine fun xb5 db5 nxb5 ndb5 neb5 => ⟨xb5, db5, 0, 1, 2, rfl, upd_same, ⟨.inl ⟨rfl, by decide, by decide⟩, by decide, by decide, by decide, by decide⟩, fun Hb5 bb5 hEb5 => ⟨rfl, ?_⟩⟩
    have s_b5 := s_a5.trans (made_s nxb5 ndb5 bb5)
    rw [p_0_1_2] at hEb5
    refine ⟨xa5, xb5, _, _, _, _, _, _, rfl, hEa5.same (made_s nxb5 ndb5 bb5), hEb5, (sk 1 (by decide)).1, (sk 0 (by decide)).1, (sk 6 (by decide)).1, (sk 0 (by decide)).1, (sk 1 (by decide)).1, (sk 2 (by decide)).1, ?_⟩
    refine ⟨(by show 2 ≤ sizeLine; decide), fun l5 hl5 => ?_⟩
    have n5 := fun o => same_upd (o := o) hl5
    have since5 := (made_s nxa4 nda4 ba4).trans ((made_s nxb4 ndb4 bb4).trans ((made_s nxa5 nda5 ba5).trans (made_s nxb5 ndb5 bb5)))
    have t5 : Same _ (upd Hb5 l5 (.lst [.int (-1), .int (1)])) := same_upd hl5
    have old5 := t5 _ _ ((since5) _ _ hM3)
    refine ⟨m3, l5, _, _, rfl, rfl, old5, upd_same, (by show 6 ≤ sizeLine; decide), fun m5 hm5 => ?_⟩
    have s_m5 := (s_b5.trans t5).trans (same_upd (o := .lst [.int (-1), .int (1), .int (0), .int (-1), .int (-1), .int (1)]) hm5)
    have hM5 : (upd (upd Hb5 l5 (.lst [.int (-1), .int (1)])) m5 (.lst [.int (-1), .int (1), .int (0), .int (-1), .int (-1), .int (1)])) m5 = some (.lst [.int (-1), .int (1), .int (0), .int (-1), .int (-1), .int (1)]) := upd_same
    refine ⟨_, rfl, 1, rfl, 1, rfl, 1, rfl, (by show 6 ≤ sizeLine; decide), fun l9 hl9 => ?_⟩
    refine ⟨_, _, .lst (SqL.of (same_upd hl9 _ _ hM5)) (.cons (.int _) (.cons (.int _) (.cons (.int _) (.cons (.int _) (.cons (.int _) (.cons (.int _) .nil)))))), .lst (SqL.of upd_same) (.cons (.int _) (.cons (.int _) (.cons (.int _) (.cons (.int _) (.cons (.int _) (.cons (.int _) .nil)))))), rfl, rfl, _, rfl, ite2 (fun e => absurd e (by decide)) (fun _ => ?_)⟩
    have tg := s_m5.trans (same_upd (o := .lst [.int (-1), .int 1, .int 0, .int (-1), .int (-1), .int 1]) hl9)
    have hSg := tg.seq hS
    -- all([..])
    refine ⟨_, rfl, a, _, rfl, .inl hSg, _, _, rfl, _, _, rfl, _, rfl, ?_, ?_, fun D hD => ?_⟩
    · split <;> split <;> omega
    · have : (List.map V.int ns).length = ns.length := List.length_map ..
      split <;> split <;> omega
    · refine lc_range (lo := 0) (fun i H' => But D _ H' ∧ H' D = some (.lst (List.replicate i (.bl true)))) ⟨But.upd, upd_same⟩ ?_ ?_
      · rintro i H1' hi ⟨bD, hDi⟩
        have hi63 : i ≤ 100 := by
          have : (List.map V.int ns).length = ns.length := List.length_map ..
          split at hi <;> split at hi <;> omega
        refine ⟨rfl, ?_⟩
        unfold tYes
        refine iteT ?_
        refine ⟨_, rfl, _, rfl, a, ns, i, ?_, seq_but hSg hD bD, hi63, hlen, fun H2' c sc nc hc => ?_⟩
        · show [V.ref a, V.int (0 + (i : Int))] = _
          rw [Int.zero_add]
        refine ⟨c, rfl, hc, fun H3' b3 => ?_⟩
        have nDc : D ≠ c := ne_of_none hDi nc
        refine ⟨_, b3 _ _ nDc (sc _ _ hDi), ?_, ?_, ?_⟩
        · rw [List.length_replicate]
          exact small1000 (by omega)
        · intro y o ny e
          rw [upd_ne ny]
          have hy1 := bD _ _ ny e
          exact b3 _ _ (ne_of_none hy1 nc) (sc _ _ hy1)
        · rw [upd_same, List.replicate_succ']
      · rintro H1' ⟨bD, hDn⟩
        refine ⟨D, List.replicate _ true, rfl, SqL.of (by rw [List.map_replicate]; exact hDn), ?_⟩
        have ea : ∀ n : Nat, (List.replicate n true).all id = true := fun n => by
          rw [List.all_eq_true]
          intro z hz
          rw [List.eq_of_mem_replicate hz]
          rfl
        rw [ea]
        exact k _
end
end RL

namespace RL
open PySem L2
set_option maxHeartbeats 4000000 in
theorem all_mk {l : PySem.W.OpenLaw} {w : World} {K : PySem.W.Frag} {h : Heap} {mg : Str → Option Value} (X : K.In h) (G : h.Ns mainGlobals mg) {fa C : Addr} {f_is_integer f_is_integer_within f_common_divisor f_lowest_terms f_sign f_square_root f_under_root f_floor_of f_equation_of_fraction f_simplest_equation f_beside_fraction f_sign_along_line f_law_cup f_law_sip f_law_pick f_law_pair f_law_ten f_law_root f_law_normal f_law_side f_law_three f_law_small f_law_figures f_law_due f_law_right f_law f_Exact_init f_Exact_floor f_Exact_order f_Exact_eq : Addr}
    {od_is_integer an_is_integer od_is_integer_within an_is_integer_within od_common_divisor an_common_divisor od_lowest_terms an_lowest_terms od_sign an_sign od_square_root an_square_root od_under_root an_under_root od_floor_of an_floor_of od_equation_of_fraction an_equation_of_fraction od_simplest_equation an_simplest_equation od_beside_fraction an_beside_fraction od_sign_along_line an_sign_along_line od_law_cup an_law_cup od_law_sip an_law_sip od_law_pick an_law_pick od_law_pair an_law_pair od_law_ten an_law_ten od_law_root an_law_root od_law_normal an_law_normal od_law_side an_law_side od_law_three an_law_three od_law_small an_law_small od_law_figures an_law_figures od_law_due an_law_due od_law_right an_law_right od_law an_law od_Exact_init an_Exact_init od_Exact_floor an_Exact_floor od_Exact_order an_Exact_order od_Exact_eq an_Exact_eq : Option Addr} {sl_is_integer sl_is_integer_within sl_common_divisor sl_lowest_terms sl_sign sl_square_root sl_under_root sl_floor_of sl_equation_of_fraction sl_simplest_equation sl_beside_fraction sl_sign_along_line sl_law_cup sl_law_sip sl_law_pick sl_law_pair sl_law_ten sl_law_root sl_law_normal sl_law_side sl_law_three sl_law_small sl_law_figures sl_law_due sl_law_right sl_law sl_Exact_init sl_Exact_floor sl_Exact_order sl_Exact_eq : Array (Option Value)}
    {oc_is_integer kV_is_integer dc_is_integer pm_is_integer cd_is_integer ct_is_integer oc_is_integer_within kV_is_integer_within dc_is_integer_within pm_is_integer_within cd_is_integer_within ct_is_integer_within oc_common_divisor kV_common_divisor dc_common_divisor pm_common_divisor cd_common_divisor ct_common_divisor oc_lowest_terms kV_lowest_terms dc_lowest_terms pm_lowest_terms cd_lowest_terms ct_lowest_terms oc_sign kV_sign dc_sign pm_sign cd_sign ct_sign oc_square_root kV_square_root dc_square_root pm_square_root cd_square_root ct_square_root oc_under_root kV_under_root dc_under_root pm_under_root cd_under_root ct_under_root oc_floor_of kV_floor_of dc_floor_of pm_floor_of cd_floor_of ct_floor_of oc_equation_of_fraction kV_equation_of_fraction dc_equation_of_fraction pm_equation_of_fraction cd_equation_of_fraction ct_equation_of_fraction oc_simplest_equation kV_simplest_equation dc_simplest_equation pm_simplest_equation cd_simplest_equation ct_simplest_equation oc_beside_fraction kV_beside_fraction dc_beside_fraction pm_beside_fraction cd_beside_fraction ct_beside_fraction oc_sign_along_line kV_sign_along_line dc_sign_along_line pm_sign_along_line cd_sign_along_line ct_sign_along_line oc_law_cup kV_law_cup dc_law_cup pm_law_cup cd_law_cup ct_law_cup oc_law_sip kV_law_sip dc_law_sip pm_law_sip cd_law_sip ct_law_sip oc_law_pick kV_law_pick dc_law_pick pm_law_pick cd_law_pick ct_law_pick oc_law_pair kV_law_pair dc_law_pair pm_law_pair cd_law_pair ct_law_pair oc_law_ten kV_law_ten dc_law_ten pm_law_ten cd_law_ten ct_law_ten oc_law_root kV_law_root dc_law_root pm_law_root cd_law_root ct_law_root oc_law_normal kV_law_normal dc_law_normal pm_law_normal cd_law_normal ct_law_normal oc_law_side kV_law_side dc_law_side pm_law_side cd_law_side ct_law_side oc_law_three kV_law_three dc_law_three pm_law_three cd_law_three ct_law_three oc_law_small kV_law_small dc_law_small pm_law_small cd_law_small ct_law_small oc_law_figures kV_law_figures dc_law_figures pm_law_figures cd_law_figures ct_law_figures oc_law_due kV_law_due dc_law_due pm_law_due cd_law_due ct_law_due oc_law_right kV_law_right dc_law_right pm_law_right cd_law_right ct_law_right oc_law kV_law dc_law pm_law cd_law ct_law oc_Exact_init kV_Exact_init dc_Exact_init pm_Exact_init cd_Exact_init ct_Exact_init oc_Exact_floor kV_Exact_floor dc_Exact_floor pm_Exact_floor cd_Exact_floor ct_Exact_floor oc_Exact_order kV_Exact_order dc_Exact_order pm_Exact_order cd_Exact_order ct_Exact_order oc_Exact_eq kV_Exact_eq dc_Exact_eq pm_Exact_eq cd_Exact_eq ct_Exact_eq : Value} {tP : Tok} (hfa : mg "law" = some (.ref fa))
    (a_is_integer : PySem.W.nsIn K mainGlobals "is_integer" = some (some (.ref f_is_integer)))
    (l_is_integer : K.lookup f_is_integer = some ⟨oc_is_integer, od_is_integer, .func (PySem.W.fnOf "is_integer" "is_integer" (defArgs s_is_integer) (defBody s_is_integer) (defScope s_is_integer) .none kV_is_integer dc_is_integer pm_is_integer an_is_integer cd_is_integer ct_is_integer), sl_is_integer⟩)
    (c_is_integer : PySem.W.codeIn K cd_is_integer "is_integer" = true)
    (k_is_integer : PySem.W.keepIn K (.ref f_is_integer) = true)
    (a_is_integer_within : PySem.W.nsIn K mainGlobals "is_integer_within" = some (some (.ref f_is_integer_within)))
    (l_is_integer_within : K.lookup f_is_integer_within = some ⟨oc_is_integer_within, od_is_integer_within, .func (PySem.W.fnOf "is_integer_within" "is_integer_within" (defArgs s_is_integer_within) (defBody s_is_integer_within) (defScope s_is_integer_within) .none kV_is_integer_within dc_is_integer_within pm_is_integer_within an_is_integer_within cd_is_integer_within ct_is_integer_within), sl_is_integer_within⟩)
    (c_is_integer_within : PySem.W.codeIn K cd_is_integer_within "is_integer_within" = true)
    (k_is_integer_within : PySem.W.keepIn K (.ref f_is_integer_within) = true)
    (a_common_divisor : PySem.W.nsIn K mainGlobals "common_divisor" = some (some (.ref f_common_divisor)))
    (l_common_divisor : K.lookup f_common_divisor = some ⟨oc_common_divisor, od_common_divisor, .func (PySem.W.fnOf "common_divisor" "common_divisor" (defArgs s_common_divisor) (defBody s_common_divisor) (defScope s_common_divisor) .none kV_common_divisor dc_common_divisor pm_common_divisor an_common_divisor cd_common_divisor ct_common_divisor), sl_common_divisor⟩)
    (c_common_divisor : PySem.W.codeIn K cd_common_divisor "common_divisor" = true)
    (k_common_divisor : PySem.W.keepIn K (.ref f_common_divisor) = true)
    (a_lowest_terms : PySem.W.nsIn K mainGlobals "lowest_terms" = some (some (.ref f_lowest_terms)))
    (l_lowest_terms : K.lookup f_lowest_terms = some ⟨oc_lowest_terms, od_lowest_terms, .func (PySem.W.fnOf "lowest_terms" "lowest_terms" (defArgs s_lowest_terms) (defBody s_lowest_terms) (defScope s_lowest_terms) .none kV_lowest_terms dc_lowest_terms pm_lowest_terms an_lowest_terms cd_lowest_terms ct_lowest_terms), sl_lowest_terms⟩)
    (c_lowest_terms : PySem.W.codeIn K cd_lowest_terms "lowest_terms" = true)
    (k_lowest_terms : PySem.W.keepIn K (.ref f_lowest_terms) = true)
    (a_sign : PySem.W.nsIn K mainGlobals "sign" = some (some (.ref f_sign)))
    (l_sign : K.lookup f_sign = some ⟨oc_sign, od_sign, .func (PySem.W.fnOf "sign" "sign" (defArgs s_sign) (defBody s_sign) (defScope s_sign) .none kV_sign dc_sign pm_sign an_sign cd_sign ct_sign), sl_sign⟩)
    (c_sign : PySem.W.codeIn K cd_sign "sign" = true)
    (k_sign : PySem.W.keepIn K (.ref f_sign) = true)
    (a_square_root : PySem.W.nsIn K mainGlobals "square_root" = some (some (.ref f_square_root)))
    (l_square_root : K.lookup f_square_root = some ⟨oc_square_root, od_square_root, .func (PySem.W.fnOf "square_root" "square_root" (defArgs s_square_root) (defBody s_square_root) (defScope s_square_root) .none kV_square_root dc_square_root pm_square_root an_square_root cd_square_root ct_square_root), sl_square_root⟩)
    (c_square_root : PySem.W.codeIn K cd_square_root "square_root" = true)
    (k_square_root : PySem.W.keepIn K (.ref f_square_root) = true)
    (a_under_root : PySem.W.nsIn K mainGlobals "under_root" = some (some (.ref f_under_root)))
    (l_under_root : K.lookup f_under_root = some ⟨oc_under_root, od_under_root, .func (PySem.W.fnOf "under_root" "under_root" (defArgs s_under_root) (defBody s_under_root) (defScope s_under_root) .none kV_under_root dc_under_root pm_under_root an_under_root cd_under_root ct_under_root), sl_under_root⟩)
    (c_under_root : PySem.W.codeIn K cd_under_root "under_root" = true)
    (k_under_root : PySem.W.keepIn K (.ref f_under_root) = true)
    (a_floor_of : PySem.W.nsIn K mainGlobals "floor_of" = some (some (.ref f_floor_of)))
    (l_floor_of : K.lookup f_floor_of = some ⟨oc_floor_of, od_floor_of, .func (PySem.W.fnOf "floor_of" "floor_of" (defArgs s_floor_of) (defBody s_floor_of) (defScope s_floor_of) .none kV_floor_of dc_floor_of pm_floor_of an_floor_of cd_floor_of ct_floor_of), sl_floor_of⟩)
    (c_floor_of : PySem.W.codeIn K cd_floor_of "floor_of" = true)
    (k_floor_of : PySem.W.keepIn K (.ref f_floor_of) = true)
    (a_equation_of_fraction : PySem.W.nsIn K mainGlobals "equation_of_fraction" = some (some (.ref f_equation_of_fraction)))
    (l_equation_of_fraction : K.lookup f_equation_of_fraction = some ⟨oc_equation_of_fraction, od_equation_of_fraction, .func (PySem.W.fnOf "equation_of_fraction" "equation_of_fraction" (defArgs s_equation_of_fraction) (defBody s_equation_of_fraction) (defScope s_equation_of_fraction) .none kV_equation_of_fraction dc_equation_of_fraction pm_equation_of_fraction an_equation_of_fraction cd_equation_of_fraction ct_equation_of_fraction), sl_equation_of_fraction⟩)
    (c_equation_of_fraction : PySem.W.codeIn K cd_equation_of_fraction "equation_of_fraction" = true)
    (k_equation_of_fraction : PySem.W.keepIn K (.ref f_equation_of_fraction) = true)
    (a_simplest_equation : PySem.W.nsIn K mainGlobals "simplest_equation" = some (some (.ref f_simplest_equation)))
    (l_simplest_equation : K.lookup f_simplest_equation = some ⟨oc_simplest_equation, od_simplest_equation, .func (PySem.W.fnOf "simplest_equation" "simplest_equation" (defArgs s_simplest_equation) (defBody s_simplest_equation) (defScope s_simplest_equation) .none kV_simplest_equation dc_simplest_equation pm_simplest_equation an_simplest_equation cd_simplest_equation ct_simplest_equation), sl_simplest_equation⟩)
    (c_simplest_equation : PySem.W.codeIn K cd_simplest_equation "simplest_equation" = true)
    (k_simplest_equation : PySem.W.keepIn K (.ref f_simplest_equation) = true)
    (a_beside_fraction : PySem.W.nsIn K mainGlobals "beside_fraction" = some (some (.ref f_beside_fraction)))
    (l_beside_fraction : K.lookup f_beside_fraction = some ⟨oc_beside_fraction, od_beside_fraction, .func (PySem.W.fnOf "beside_fraction" "beside_fraction" (defArgs s_beside_fraction) (defBody s_beside_fraction) (defScope s_beside_fraction) .none kV_beside_fraction dc_beside_fraction pm_beside_fraction an_beside_fraction cd_beside_fraction ct_beside_fraction), sl_beside_fraction⟩)
    (c_beside_fraction : PySem.W.codeIn K cd_beside_fraction "beside_fraction" = true)
    (k_beside_fraction : PySem.W.keepIn K (.ref f_beside_fraction) = true)
    (a_sign_along_line : PySem.W.nsIn K mainGlobals "sign_along_line" = some (some (.ref f_sign_along_line)))
    (l_sign_along_line : K.lookup f_sign_along_line = some ⟨oc_sign_along_line, od_sign_along_line, .func (PySem.W.fnOf "sign_along_line" "sign_along_line" (defArgs s_sign_along_line) (defBody s_sign_along_line) (defScope s_sign_along_line) .none kV_sign_along_line dc_sign_along_line pm_sign_along_line an_sign_along_line cd_sign_along_line ct_sign_along_line), sl_sign_along_line⟩)
    (c_sign_along_line : PySem.W.codeIn K cd_sign_along_line "sign_along_line" = true)
    (k_sign_along_line : PySem.W.keepIn K (.ref f_sign_along_line) = true)
    (a_law_cup : PySem.W.nsIn K mainGlobals "_law_cup" = some (some (.ref f_law_cup)))
    (l_law_cup : K.lookup f_law_cup = some ⟨oc_law_cup, od_law_cup, .func (PySem.W.fnOf "_law_cup" "_law_cup" (defArgs s_law_cup) (defBody s_law_cup) (defScope s_law_cup) .none kV_law_cup dc_law_cup pm_law_cup an_law_cup cd_law_cup ct_law_cup), sl_law_cup⟩)
    (c_law_cup : PySem.W.codeIn K cd_law_cup "_law_cup" = true)
    (k_law_cup : PySem.W.keepIn K (.ref f_law_cup) = true)
    (a_law_sip : PySem.W.nsIn K mainGlobals "_law_sip" = some (some (.ref f_law_sip)))
    (l_law_sip : K.lookup f_law_sip = some ⟨oc_law_sip, od_law_sip, .func (PySem.W.fnOf "_law_sip" "_law_sip" (defArgs s_law_sip) (defBody s_law_sip) (defScope s_law_sip) .none kV_law_sip dc_law_sip pm_law_sip an_law_sip cd_law_sip ct_law_sip), sl_law_sip⟩)
    (c_law_sip : PySem.W.codeIn K cd_law_sip "_law_sip" = true)
    (k_law_sip : PySem.W.keepIn K (.ref f_law_sip) = true)
    (a_law_pick : PySem.W.nsIn K mainGlobals "_law_pick" = some (some (.ref f_law_pick)))
    (l_law_pick : K.lookup f_law_pick = some ⟨oc_law_pick, od_law_pick, .func (PySem.W.fnOf "_law_pick" "_law_pick" (defArgs s_law_pick) (defBody s_law_pick) (defScope s_law_pick) .none kV_law_pick dc_law_pick pm_law_pick an_law_pick cd_law_pick ct_law_pick), sl_law_pick⟩)
    (c_law_pick : PySem.W.codeIn K cd_law_pick "_law_pick" = true)
    (k_law_pick : PySem.W.keepIn K (.ref f_law_pick) = true)
    (a_law_pair : PySem.W.nsIn K mainGlobals "_law_pair" = some (some (.ref f_law_pair)))
    (l_law_pair : K.lookup f_law_pair = some ⟨oc_law_pair, od_law_pair, .func (PySem.W.fnOf "_law_pair" "_law_pair" (defArgs s_law_pair) (defBody s_law_pair) (defScope s_law_pair) .none kV_law_pair dc_law_pair pm_law_pair an_law_pair cd_law_pair ct_law_pair), sl_law_pair⟩)
    (c_law_pair : PySem.W.codeIn K cd_law_pair "_law_pair" = true)
    (k_law_pair : PySem.W.keepIn K (.ref f_law_pair) = true)
    (a_law_ten : PySem.W.nsIn K mainGlobals "_law_ten" = some (some (.ref f_law_ten)))
    (l_law_ten : K.lookup f_law_ten = some ⟨oc_law_ten, od_law_ten, .func (PySem.W.fnOf "_law_ten" "_law_ten" (defArgs s_law_ten) (defBody s_law_ten) (defScope s_law_ten) .none kV_law_ten dc_law_ten pm_law_ten an_law_ten cd_law_ten ct_law_ten), sl_law_ten⟩)
    (c_law_ten : PySem.W.codeIn K cd_law_ten "_law_ten" = true)
    (k_law_ten : PySem.W.keepIn K (.ref f_law_ten) = true)
    (a_law_root : PySem.W.nsIn K mainGlobals "_law_root" = some (some (.ref f_law_root)))
    (l_law_root : K.lookup f_law_root = some ⟨oc_law_root, od_law_root, .func (PySem.W.fnOf "_law_root" "_law_root" (defArgs s_law_root) (defBody s_law_root) (defScope s_law_root) .none kV_law_root dc_law_root pm_law_root an_law_root cd_law_root ct_law_root), sl_law_root⟩)
    (c_law_root : PySem.W.codeIn K cd_law_root "_law_root" = true)
    (k_law_root : PySem.W.keepIn K (.ref f_law_root) = true)
    (a_law_normal : PySem.W.nsIn K mainGlobals "_law_normal" = some (some (.ref f_law_normal)))
    (l_law_normal : K.lookup f_law_normal = some ⟨oc_law_normal, od_law_normal, .func (PySem.W.fnOf "_law_normal" "_law_normal" (defArgs s_law_normal) (defBody s_law_normal) (defScope s_law_normal) .none kV_law_normal dc_law_normal pm_law_normal an_law_normal cd_law_normal ct_law_normal), sl_law_normal⟩)
    (c_law_normal : PySem.W.codeIn K cd_law_normal "_law_normal" = true)
    (k_law_normal : PySem.W.keepIn K (.ref f_law_normal) = true)
    (a_law_side : PySem.W.nsIn K mainGlobals "_law_side" = some (some (.ref f_law_side)))
    (l_law_side : K.lookup f_law_side = some ⟨oc_law_side, od_law_side, .func (PySem.W.fnOf "_law_side" "_law_side" (defArgs s_law_side) (defBody s_law_side) (defScope s_law_side) .none kV_law_side dc_law_side pm_law_side an_law_side cd_law_side ct_law_side), sl_law_side⟩)
    (c_law_side : PySem.W.codeIn K cd_law_side "_law_side" = true)
    (k_law_side : PySem.W.keepIn K (.ref f_law_side) = true)
    (a_law_three : PySem.W.nsIn K mainGlobals "_law_three" = some (some (.ref f_law_three)))
    (l_law_three : K.lookup f_law_three = some ⟨oc_law_three, od_law_three, .func (PySem.W.fnOf "_law_three" "_law_three" (defArgs s_law_three) (defBody s_law_three) (defScope s_law_three) .none kV_law_three dc_law_three pm_law_three an_law_three cd_law_three ct_law_three), sl_law_three⟩)
    (c_law_three : PySem.W.codeIn K cd_law_three "_law_three" = true)
    (k_law_three : PySem.W.keepIn K (.ref f_law_three) = true)
    (a_law_small : PySem.W.nsIn K mainGlobals "_law_small" = some (some (.ref f_law_small)))
    (l_law_small : K.lookup f_law_small = some ⟨oc_law_small, od_law_small, .func (PySem.W.fnOf "_law_small" "_law_small" (defArgs s_law_small) (defBody s_law_small) (defScope s_law_small) .none kV_law_small dc_law_small pm_law_small an_law_small cd_law_small ct_law_small), sl_law_small⟩)
    (c_law_small : PySem.W.codeIn K cd_law_small "_law_small" = true)
    (k_law_small : PySem.W.keepIn K (.ref f_law_small) = true)
    (a_law_figures : PySem.W.nsIn K mainGlobals "_law_figures" = some (some (.ref f_law_figures)))
    (l_law_figures : K.lookup f_law_figures = some ⟨oc_law_figures, od_law_figures, .func (PySem.W.fnOf "_law_figures" "_law_figures" (defArgs s_law_figures) (defBody s_law_figures) (defScope s_law_figures) .none kV_law_figures dc_law_figures pm_law_figures an_law_figures cd_law_figures ct_law_figures), sl_law_figures⟩)
    (c_law_figures : PySem.W.codeIn K cd_law_figures "_law_figures" = true)
    (k_law_figures : PySem.W.keepIn K (.ref f_law_figures) = true)
    (a_law_due : PySem.W.nsIn K mainGlobals "_law_due" = some (some (.ref f_law_due)))
    (l_law_due : K.lookup f_law_due = some ⟨oc_law_due, od_law_due, .func (PySem.W.fnOf "_law_due" "_law_due" (defArgs s_law_due) (defBody s_law_due) (defScope s_law_due) .none kV_law_due dc_law_due pm_law_due an_law_due cd_law_due ct_law_due), sl_law_due⟩)
    (c_law_due : PySem.W.codeIn K cd_law_due "_law_due" = true)
    (k_law_due : PySem.W.keepIn K (.ref f_law_due) = true)
    (a_law_right : PySem.W.nsIn K mainGlobals "_law_right" = some (some (.ref f_law_right)))
    (l_law_right : K.lookup f_law_right = some ⟨oc_law_right, od_law_right, .func (PySem.W.fnOf "_law_right" "_law_right" (defArgs s_law_right) (defBody s_law_right) (defScope s_law_right) .none kV_law_right dc_law_right pm_law_right an_law_right cd_law_right ct_law_right), sl_law_right⟩)
    (c_law_right : PySem.W.codeIn K cd_law_right "_law_right" = true)
    (k_law_right : PySem.W.keepIn K (.ref f_law_right) = true)
    (a_law : PySem.W.nsIn K mainGlobals "law" = some (some (.ref f_law)))
    (l_law : K.lookup f_law = some ⟨oc_law, od_law, .func (PySem.W.fnOf "law" "law" (defArgs s_law) (defBody s_law) (defScope s_law) .none kV_law dc_law pm_law an_law cd_law ct_law), sl_law⟩)
    (c_law : PySem.W.codeIn K cd_law "law" = true)
    (k_law : PySem.W.keepIn K (.ref f_law) = true)
    (a_Exact_init : PySem.W.findIn K (.ref C) "__init__" = some (some (.ref f_Exact_init)))
    (i_Exact_init : PySem.W.isFn K (.ref f_Exact_init) = true)
    (l_Exact_init : K.lookup f_Exact_init = some ⟨oc_Exact_init, od_Exact_init, .func (PySem.W.fnOf "__init__" "Exact.__init__" (defArgs s_Exact_init) (defBody s_Exact_init) (defScope s_Exact_init) .none kV_Exact_init dc_Exact_init pm_Exact_init an_Exact_init cd_Exact_init ct_Exact_init), sl_Exact_init⟩)
    (c_Exact_init : PySem.W.codeIn K cd_Exact_init "Exact.__init__" = true)
    (k_Exact_init : PySem.W.keepIn K (.ref f_Exact_init) = true)
    (a_Exact_floor : PySem.W.findIn K (.ref C) "floor" = some (some (.ref f_Exact_floor)))
    (i_Exact_floor : PySem.W.isFn K (.ref f_Exact_floor) = true)
    (l_Exact_floor : K.lookup f_Exact_floor = some ⟨oc_Exact_floor, od_Exact_floor, .func (PySem.W.fnOf "floor" "Exact.floor" (defArgs s_Exact_floor) (defBody s_Exact_floor) (defScope s_Exact_floor) .none kV_Exact_floor dc_Exact_floor pm_Exact_floor an_Exact_floor cd_Exact_floor ct_Exact_floor), sl_Exact_floor⟩)
    (c_Exact_floor : PySem.W.codeIn K cd_Exact_floor "Exact.floor" = true)
    (k_Exact_floor : PySem.W.keepIn K (.ref f_Exact_floor) = true)
    (a_Exact_order : PySem.W.findIn K (.ref C) "order" = some (some (.ref f_Exact_order)))
    (i_Exact_order : PySem.W.isFn K (.ref f_Exact_order) = true)
    (l_Exact_order : K.lookup f_Exact_order = some ⟨oc_Exact_order, od_Exact_order, .func (PySem.W.fnOf "order" "Exact.order" (defArgs s_Exact_order) (defBody s_Exact_order) (defScope s_Exact_order) .none kV_Exact_order dc_Exact_order pm_Exact_order an_Exact_order cd_Exact_order ct_Exact_order), sl_Exact_order⟩)
    (c_Exact_order : PySem.W.codeIn K cd_Exact_order "Exact.order" = true)
    (k_Exact_order : PySem.W.keepIn K (.ref f_Exact_order) = true)
    (a_Exact_eq : PySem.W.findIn K (.ref C) "__eq__" = some (some (.ref f_Exact_eq)))
    (i_Exact_eq : PySem.W.isFn K (.ref f_Exact_eq) = true)
    (l_Exact_eq : K.lookup f_Exact_eq = some ⟨oc_Exact_eq, od_Exact_eq, .func (PySem.W.fnOf "__eq__" "Exact.__eq__" (defArgs s_Exact_eq) (defBody s_Exact_eq) (defScope s_Exact_eq) .none kV_Exact_eq dc_Exact_eq pm_Exact_eq an_Exact_eq cd_Exact_eq ct_Exact_eq), sl_Exact_eq⟩)
    (c_Exact_eq : PySem.W.codeIn K cd_Exact_eq "Exact.__eq__" = true)
    (k_Exact_eq : PySem.W.keepIn K (.ref f_Exact_eq) = true)
    (aP : PySem.W.nsIn K mainGlobals "GREATEST_PART" = some (some (.int 10000000000000000000000000000000000000000 tP)))
    (aC : PySem.W.nsIn K mainGlobals "Exact" = some (some (.ref C)))
    (pg : PySem.W.plainGet K C Str.empty = true)
    (hd : PySem.W.hasDictIn K C = true)
    (po : PySem.W.plainOver K C = true)
    (sa : PySem.W.findIn K (.ref C) "__setattr__" = some (some (.builtin "object.__setattr__")))
    (mk : PySem.W.makesIn K C = true)
    (kc : PySem.W.keepIn K (.ref C) = true)
    (nP : PySem.W.findIn K (.ref C) "parts" = some none)
    (ca : PySem.W.findIn K (.ref C) "__class__" = some (some (.builtin "object.__class__")))
    (cn : PySem.W.specialIn K (.builtin "object.__class__") "__get__" = some (some (.builtin "getset_descriptor.__get__")))
    (ct : PySem.W.takesIn K (.builtin "object.__class__") = some true)
    (cm : PySem.W.mroIn K C (.type "object") = some true)
    (z_len : PySem.W.nsIn K mainGlobals "len" = some none)
    (z_abs : PySem.W.nsIn K mainGlobals "abs" = some none)
    (z_int : PySem.W.nsIn K mainGlobals "int" = some none)
    (z_bool : PySem.W.nsIn K mainGlobals "bool" = some none)
    (z_tuple : PySem.W.nsIn K mainGlobals "tuple" = some none)
    (z_isinstance : PySem.W.nsIn K mainGlobals "isinstance" = some none)
    (z_divmod : PySem.W.nsIn K mainGlobals "divmod" = some none)
    (z_max : PySem.W.nsIn K mainGlobals "max" = some none)
    (z_min : PySem.W.nsIn K mainGlobals "min" = some none)
    (z_range : PySem.W.nsIn K mainGlobals "range" = some none)
    (z_all : PySem.W.nsIn K mainGlobals "all" = some none)
    (z_repr : PySem.W.nsIn K mainGlobals "repr" = some none) :
    ∃ fd : FuncData, (∀ (s : Shared) (v : Value), BindsTo s fd ⟨[v], []⟩ [("_law_script", v)]) ∧ ∀ base : Heap, K.In base → base.Ns mainGlobals mg → FnG l.prog w K mg base 8 fa fd ["_law_script"] (spLaw K) := by
  have e := hfa.symm.trans (PySem.W.mg_of X G a_law)
  cases e
  have T : Txt2 K mg tP C := { len := PySem.W.mg_none_of X G z_len, abs := PySem.W.mg_none_of X G z_abs, int_ := PySem.W.mg_none_of X G z_int, bool_ := PySem.W.mg_none_of X G z_bool, tuple_ := PySem.W.mg_none_of X G z_tuple, isinstance := PySem.W.mg_none_of X G z_isinstance, divmod := PySem.W.mg_none_of X G z_divmod, max := PySem.W.mg_none_of X G z_max, min := PySem.W.mg_none_of X G z_min, range := PySem.W.mg_none_of X G z_range, all := PySem.W.mg_none_of X G z_all, repr := PySem.W.mg_none_of X G z_repr, mgP := PySem.W.mg_of X G aP, mgC := PySem.W.mg_of X G aC, cl := ⟨pg, hd, po, sa⟩, nP := nP }
  refine ⟨PySem.W.fnOf "law" "law" (defArgs s_law) (defBody s_law) (defScope s_law) .none kV_law dc_law pm_law an_law cd_law ct_law, fun s v => .of_eq rfl, fun base _ _ => ?_⟩
  have F_is_integer := fun_mk (st := s_is_integer) l_is_integer c_is_integer k_is_integer
  have b_is_integer := F_is_integer.binds (ps := ["value"]) fun _ _ _ _ _ _ us hl => match us, hl with | [_], _ => rfl
  have D_is_integer : Df l.prog w K mg base 1 "is_integer" ["value"] spIsInt := ⟨_, _, ok_isint F_is_integer T.toTxt, PySem.W.mg_of X G a_is_integer, k_is_integer, b_is_integer⟩
  have F_is_integer_within := fun_mk (st := s_is_integer_within) l_is_integer_within c_is_integer_within k_is_integer_within
  have b_is_integer_within := F_is_integer_within.binds (ps := ["value", "least", "most"]) fun _ _ _ _ _ _ us hl => match us, hl with | [_, _, _], _ => rfl
  have D_is_integer_within : Df l.prog w K mg base 2 "is_integer_within" ["value", "least", "most"] spWithin := ⟨_, _, ok_within F_is_integer_within D_is_integer, PySem.W.mg_of X G a_is_integer_within, k_is_integer_within, b_is_integer_within⟩
  have F_common_divisor := fun_mk (st := s_common_divisor) l_common_divisor c_common_divisor k_common_divisor
  have b_common_divisor := F_common_divisor.binds (ps := ["first", "second"]) fun _ _ _ _ _ _ us hl => match us, hl with | [_, _], _ => rfl
  have D_common_divisor : Df l.prog w K mg base 1 "common_divisor" ["first", "second"] spGcd := ⟨_, _, ok_gcd F_common_divisor T.toTxt, PySem.W.mg_of X G a_common_divisor, k_common_divisor, b_common_divisor⟩
  have F_lowest_terms := fun_mk (st := s_lowest_terms) l_lowest_terms c_lowest_terms k_lowest_terms
  have b_lowest_terms := F_lowest_terms.binds (ps := ["top", "bottom"]) fun _ _ _ _ _ _ us hl => match us, hl with | [_, _], _ => rfl
  have D_lowest_terms : Df l.prog w K mg base 2 "lowest_terms" ["top", "bottom"] spLow := ⟨_, _, ok_low F_lowest_terms D_common_divisor, PySem.W.mg_of X G a_lowest_terms, k_lowest_terms, b_lowest_terms⟩
  have F_sign := fun_mk (st := s_sign) l_sign c_sign k_sign
  have b_sign := F_sign.binds (ps := ["number"]) fun _ _ _ _ _ _ us hl => match us, hl with | [_], _ => rfl
  have D_sign : Df l.prog w K mg base 1 "sign" ["number"] spSign := ⟨_, _, ok_sign F_sign, PySem.W.mg_of X G a_sign, k_sign, b_sign⟩
  have F_square_root := fun_mk (st := s_square_root) l_square_root c_square_root k_square_root
  have b_square_root := F_square_root.binds (ps := ["number"]) fun _ _ _ _ _ _ us hl => match us, hl with | [_], _ => rfl
  have D_square_root : Df l.prog w K mg base 1 "square_root" ["number"] spRoot := ⟨_, _, ok_sqrt F_square_root, PySem.W.mg_of X G a_square_root, k_square_root, b_square_root⟩
  have F_under_root := fun_mk (st := s_under_root) l_under_root c_under_root k_under_root
  have b_under_root := F_under_root.binds (ps := ["square", "line", "whole"]) fun _ _ _ _ _ _ us hl => match us, hl with | [_, _, _], _ => rfl
  have D_under_root : Df l.prog w K mg base 1 "under_root" ["square", "line", "whole"] spUnder := ⟨_, _, ok_under F_under_root, PySem.W.mg_of X G a_under_root, k_under_root, b_under_root⟩
  have F_floor_of := fun_mk (st := s_floor_of) l_floor_of c_floor_of k_floor_of
  have b_floor_of := F_floor_of.binds (ps := ["parts", "times"]) fun _ _ _ _ _ _ us hl => match us, hl with | [_, _], _ => rfl
  have D_floor_of : Df l.prog w K mg base 2 "floor_of" ["parts", "times"] spFloOf := ⟨_, _, ok_floof F_floor_of D_square_root D_under_root, PySem.W.mg_of X G a_floor_of, k_floor_of, b_floor_of⟩
  have F_equation_of_fraction := fun_mk (st := s_equation_of_fraction) l_equation_of_fraction c_equation_of_fraction k_equation_of_fraction
  have b_equation_of_fraction := F_equation_of_fraction.binds (ps := ["top", "bottom"]) fun _ _ _ _ _ _ us hl => match us, hl with | [_, _], _ => rfl
  have D_equation_of_fraction : Df l.prog w K mg base 3 "equation_of_fraction" ["top", "bottom"] spEqF := ⟨_, _, ok_eqf F_equation_of_fraction D_lowest_terms, PySem.W.mg_of X G a_equation_of_fraction, k_equation_of_fraction, b_equation_of_fraction⟩
  have F_simplest_equation := fun_mk (st := s_simplest_equation) l_simplest_equation c_simplest_equation k_simplest_equation
  have b_simplest_equation := F_simplest_equation.binds (ps := ["square", "line", "whole"]) fun _ _ _ _ _ _ us hl => match us, hl with | [_, _, _], _ => rfl
  have D_simplest_equation : Df l.prog w K mg base 4 "simplest_equation" ["square", "line", "whole"] spSimp := ⟨_, _, ok_simp F_simplest_equation D_common_divisor D_square_root D_under_root D_equation_of_fraction, PySem.W.mg_of X G a_simplest_equation, k_simplest_equation, b_simplest_equation⟩
  have F_beside_fraction := fun_mk (st := s_beside_fraction) l_beside_fraction c_beside_fraction k_beside_fraction
  have b_beside_fraction := F_beside_fraction.binds (ps := ["parts", "top", "bottom"]) fun _ _ _ _ _ _ us hl => match us, hl with | [_, _, _], _ => rfl
  have D_beside_fraction : Df l.prog w K mg base 2 "beside_fraction" ["parts", "top", "bottom"] spBeside := ⟨_, _, ok_beside F_beside_fraction D_sign, PySem.W.mg_of X G a_beside_fraction, k_beside_fraction, b_beside_fraction⟩
  have F_sign_along_line := fun_mk (st := s_sign_along_line) l_sign_along_line c_sign_along_line k_sign_along_line
  have b_sign_along_line := F_sign_along_line.binds (ps := ["parts", "slope", "height"]) fun _ _ _ _ _ _ us hl => match us, hl with | [_, _, _], _ => rfl
  have D_sal0 : Df l.prog w K mg base 3 "sign_along_line" ["parts", "slope", "height"] spSal0 := ⟨_, _, ok_sal0 F_sign_along_line D_sign D_beside_fraction, PySem.W.mg_of X G a_sign_along_line, k_sign_along_line, b_sign_along_line⟩
  have D_sal : Df l.prog w K mg base 4 "sign_along_line" ["parts", "slope", "height"] spSal := ⟨_, _, ok_sal F_sign_along_line D_sign D_beside_fraction D_sal0, PySem.W.mg_of X G a_sign_along_line, k_sign_along_line, b_sign_along_line⟩
  have F_law_cup := fun_mk (st := s_law_cup) l_law_cup c_law_cup k_law_cup
  have b_law_cup := F_law_cup.binds (ps := ["_law_script", "_law_spot"]) fun _ _ _ _ _ _ us hl => match us, hl with | [_, _], _ => rfl
  have D_law_cup : Df l.prog w K mg base 1 "_law_cup" ["_law_script", "_law_spot"] (spCup K) := ⟨_, _, ok_cup F_law_cup T.toTxt, PySem.W.mg_of X G a_law_cup, k_law_cup, b_law_cup⟩
  have F_law_sip := fun_mk (st := s_law_sip) l_law_sip c_law_sip k_law_sip
  have b_law_sip := F_law_sip.binds (ps := ["_law_cup_here", "_law_many"]) fun _ _ _ _ _ _ us hl => match us, hl with | [_, _], _ => rfl
  have D_law_sip : Df l.prog w K mg base 1 "_law_sip" ["_law_cup_here", "_law_many"] spSip := ⟨_, _, ok_sip F_law_sip T.toTxt, PySem.W.mg_of X G a_law_sip, k_law_sip, b_law_sip⟩
  have F_law_pick := fun_mk (st := s_law_pick) l_law_pick c_law_pick k_law_pick
  have b_law_pick := F_law_pick.binds (ps := ["_law_cup_here", "_law_things"]) fun _ _ _ _ _ _ us hl => match us, hl with | [_, _], _ => rfl
  have D_law_pick : Df l.prog w K mg base 2 "_law_pick" ["_law_cup_here", "_law_things"] spPick := ⟨_, _, ok_pick F_law_pick T.toTxt D_law_sip, PySem.W.mg_of X G a_law_pick, k_law_pick, b_law_pick⟩
  have F_law_pair := fun_mk (st := s_law_pair) l_law_pair c_law_pair k_law_pair
  have b_law_pair := F_law_pair.binds (ps := ["_law_top", "_law_bottom"]) fun _ _ _ _ _ _ us hl => match us, hl with | [_, _], _ => rfl
  have D_law_pair : Df l.prog w K mg base 1 "_law_pair" ["_law_top", "_law_bottom"] spPair := ⟨_, _, ok_pair F_law_pair T.toTxt, PySem.W.mg_of X G a_law_pair, k_law_pair, b_law_pair⟩
  have F_law_ten := fun_mk (st := s_law_ten) l_law_ten c_law_ten k_law_ten
  have b_law_ten := F_law_ten.binds (ps := ["_law_figures_here"]) fun _ _ _ _ _ _ us hl => match us, hl with | [_], _ => rfl
  have D_law_ten : Df l.prog w K mg base 1 "_law_ten" ["_law_figures_here"] spTen := ⟨_, _, ok_ten F_law_ten T.toTxt, PySem.W.mg_of X G a_law_ten, k_law_ten, b_law_ten⟩
  have F_law_root := fun_mk (st := s_law_root) l_law_root c_law_root k_law_root
  have b_law_root := F_law_root.binds (ps := ["_law_worth"]) fun _ _ _ _ _ _ us hl => match us, hl with | [_], _ => rfl
  have D_law_root : Df l.prog w K mg base 1 "_law_root" ["_law_worth"] spRoot := ⟨_, _, ok_root F_law_root T.toTxt, PySem.W.mg_of X G a_law_root, k_law_root, b_law_root⟩
  have F_law_normal := fun_mk (st := s_law_normal) l_law_normal c_law_normal k_law_normal
  have b_law_normal := F_law_normal.binds (ps := ["_law_a", "_law_b", "_law_c"]) fun _ _ _ _ _ _ us hl => match us, hl with | [_, _, _], _ => rfl
  have D_law_normal : Df l.prog w K mg base 2 "_law_normal" ["_law_a", "_law_b", "_law_c"] spNormal := ⟨_, _, ok_normal F_law_normal T.toTxt D_law_pair D_law_root, PySem.W.mg_of X G a_law_normal, k_law_normal, b_law_normal⟩
  have F_law_side := fun_mk (st := s_law_side) l_law_side c_law_side k_law_side
  have b_law_side := F_law_side.binds (ps := ["_law_three_here", "_law_pair_here"]) fun _ _ _ _ _ _ us hl => match us, hl with | [_, _], _ => rfl
  have D_law_side : Df l.prog w K mg base 1 "_law_side" ["_law_three_here", "_law_pair_here"] spSide := ⟨_, _, ok_side F_law_side, PySem.W.mg_of X G a_law_side, k_law_side, b_law_side⟩
  have F_law_three := fun_mk (st := s_law_three) l_law_three c_law_three k_law_three
  have b_law_three := F_law_three.binds (ps := ["_law_cup_here"]) fun _ _ _ _ _ _ us hl => match us, hl with | [_], _ => rfl
  have D_law_three : Df l.prog w K mg base 3 "_law_three" ["_law_cup_here"] spThree := ⟨_, _, ok_three F_law_three T.toTxt D_law_sip D_law_pick, PySem.W.mg_of X G a_law_three, k_law_three, b_law_three⟩
  have F_law_small := fun_mk (st := s_law_small) l_law_small c_law_small k_law_small
  have b_law_small := F_law_small.binds (ps := ["_law_cup_here"]) fun _ _ _ _ _ _ us hl => match us, hl with | [_], _ => rfl
  have D_law_small : Df l.prog w K mg base 3 "_law_small" ["_law_cup_here"] spSmall := ⟨_, _, ok_small F_law_small T.toTxt D_law_sip D_law_pick, PySem.W.mg_of X G a_law_small, k_law_small, b_law_small⟩
  have F_law_figures := fun_mk (st := s_law_figures) l_law_figures c_law_figures k_law_figures
  have b_law_figures := F_law_figures.binds (ps := ["_law_three_here", "_law_by"]) fun _ _ _ _ _ _ us hl => match us, hl with | [_, _], _ => rfl
  have D_law_figures : Df l.prog w K mg base 2 "_law_figures" ["_law_three_here", "_law_by"] spFigures := ⟨_, _, ok_figures F_law_figures D_law_root, PySem.W.mg_of X G a_law_figures, k_law_figures, b_law_figures⟩
  have F_law_due := fun_mk (st := s_law_due) l_law_due c_law_due k_law_due
  have b_law_due := F_law_due.binds (ps := ["_law_one", "_law_two"]) fun _ _ _ _ _ _ us hl => match us, hl with | [_, _], _ => rfl
  have D_law_due : Df l.prog w K mg base 3 "_law_due" ["_law_one", "_law_two"] spDue := ⟨_, _, ok_due F_law_due D_law_normal D_law_ten D_law_figures, PySem.W.mg_of X G a_law_due, k_law_due, b_law_due⟩
  have F_Exact_init := fun_mk (st := s_Exact_init) l_Exact_init c_Exact_init k_Exact_init
  have b_Exact_init := F_Exact_init.binds (ps := ["self", "square", "line", "whole"]) fun _ _ _ _ _ _ us hl => match us, hl with | [_, _, _, _], _ => rfl
  have F_Exact_floor := fun_mk (st := s_Exact_floor) l_Exact_floor c_Exact_floor k_Exact_floor
  have b_Exact_floor := F_Exact_floor.binds (ps := ["self", "times"]) fun _ _ _ _ _ _ us hl => match us, hl with | [_, _], _ => rfl
  have F_Exact_order := fun_mk (st := s_Exact_order) l_Exact_order c_Exact_order k_Exact_order
  have b_Exact_order := F_Exact_order.binds (ps := ["self", "other"]) fun _ _ _ _ _ _ us hl => match us, hl with | [_, _], _ => rfl
  have F_Exact_eq := fun_mk (st := s_Exact_eq) l_Exact_eq c_Exact_eq k_Exact_eq
  have b_Exact_eq := F_Exact_eq.binds (ps := ["self", "other"]) fun _ _ _ _ _ _ us hl => match us, hl with | [_, _], _ => rfl
  have X_exact : ExD l.prog w K mg base C := ⟨_, _, ⟨mk, a_Exact_init, i_Exact_init, kc⟩, ok_init F_Exact_init T D_is_integer_within D_simplest_equation, b_Exact_init⟩
  have M_order : Mt l.prog w K mg base C 5 "order" "self" "other" (spOrder C) := ⟨_, _, ok_order F_Exact_order T D_sal D_beside_fraction, ⟨a_Exact_order, i_Exact_order, k_Exact_order⟩, b_Exact_order, fun _ _ _ _ => .of_eq rfl⟩
  have M_floor : Mt l.prog w K mg base C 3 "floor" "self" "times" (spFloor C) := ⟨_, _, ok_floor F_Exact_floor T D_is_integer_within D_floor_of, ⟨a_Exact_floor, i_Exact_floor, k_Exact_floor⟩, b_Exact_floor, fun _ _ _ _ => .of_eq rfl⟩
  have I : IsC K C := ⟨ca, cn, ct, cm, (by unfold PySem.W.kitOne; simp), (by unfold PySem.W.notFirst; simp)⟩
  have F_law_right := fun_mk (st := s_law_right) l_law_right c_law_right k_law_right
  have b_law_right := F_law_right.binds (ps := ["_law_cup_here"]) fun _ _ _ _ _ _ us hl => match us, hl with | [_], _ => rfl
  have D_law_right : DfG l.prog w K mg base 7 "_law_right" ["_law_cup_here"] spRight := ⟨_, _, ok_right F_law_right T I X_exact M_floor M_order a_Exact_eq i_Exact_eq (ok_eq F_Exact_eq T I) b_Exact_eq D_law_sip D_law_pick D_law_three D_law_small D_law_due D_law_side, PySem.W.mg_of X G a_law_right, k_law_right, b_law_right⟩
  exact ok_law (fun_mk (st := s_law) l_law c_law k_law) T X_exact M_order D_law_cup D_law_right
end RL

open PySem PySem.W PyProof.Rows
set_option maxRecDepth 100000 in
set_option maxHeartbeats 0 in
theorem PySem.Challenge.cw_rungladders_k05_whole_order_of_exact_num_holds : PySem.Challenge.rw_rungladders_k05_whole_order_of_exact_num.Holds := by
  w_on; o_law; k_head; (case hw => w_witness2)
  k_fill
  refine RL.walk_ofG (l := PySem.Challenge.rw_rungladders_k05_whole_order_of_exact_num) (n := 63) (k := 8) (x := "_law_script") (sp := fun w => RL.spLaw _) rfl (by decide) rfl ⟨rfl, by decide, by decide⟩ (fun w h Y => PySem.W.kIn_of Y) ?F (fun _ _ a ns hl _ hS => ⟨a, ns, rfl, hS, hl, fun _ => rfl⟩)
  case F =>
    intro w mg fa h KX G hmg
    refine' RL.all_mk KX G hmg ?a_is_integer ?l_is_integer ?c_is_integer ?k_is_integer ?a_is_integer_within ?l_is_integer_within ?c_is_integer_within ?k_is_integer_within ?a_common_divisor ?l_common_divisor ?c_common_divisor ?k_common_divisor ?a_lowest_terms ?l_lowest_terms ?c_lowest_terms ?k_lowest_terms ?a_sign ?l_sign ?c_sign ?k_sign ?a_square_root ?l_square_root ?c_square_root ?k_square_root ?a_under_root ?l_under_root ?c_under_root ?k_under_root ?a_floor_of ?l_floor_of ?c_floor_of ?k_floor_of ?a_equation_of_fraction ?l_equation_of_fraction ?c_equation_of_fraction ?k_equation_of_fraction ?a_simplest_equation ?l_simplest_equation ?c_simplest_equation ?k_simplest_equation ?a_beside_fraction ?l_beside_fraction ?c_beside_fraction ?k_beside_fraction ?a_sign_along_line ?l_sign_along_line ?c_sign_along_line ?k_sign_along_line ?a_law_cup ?l_law_cup ?c_law_cup ?k_law_cup ?a_law_sip ?l_law_sip ?c_law_sip ?k_law_sip ?a_law_pick ?l_law_pick ?c_law_pick ?k_law_pick ?a_law_pair ?l_law_pair ?c_law_pair ?k_law_pair ?a_law_ten ?l_law_ten ?c_law_ten ?k_law_ten ?a_law_root ?l_law_root ?c_law_root ?k_law_root ?a_law_normal ?l_law_normal ?c_law_normal ?k_law_normal ?a_law_side ?l_law_side ?c_law_side ?k_law_side ?a_law_three ?l_law_three ?c_law_three ?k_law_three ?a_law_small ?l_law_small ?c_law_small ?k_law_small ?a_law_figures ?l_law_figures ?c_law_figures ?k_law_figures ?a_law_due ?l_law_due ?c_law_due ?k_law_due ?a_law_right ?l_law_right ?c_law_right ?k_law_right ?a_law ?l_law ?c_law ?k_law ?a_Exact_init ?i_Exact_init ?l_Exact_init ?c_Exact_init ?k_Exact_init ?a_Exact_floor ?i_Exact_floor ?l_Exact_floor ?c_Exact_floor ?k_Exact_floor ?a_Exact_order ?i_Exact_order ?l_Exact_order ?c_Exact_order ?k_Exact_order ?a_Exact_eq ?i_Exact_eq ?l_Exact_eq ?c_Exact_eq ?k_Exact_eq ?aP ?aC ?pg ?hd ?po ?sa ?mk ?kc ?nP ?ca ?cn ?ct ?cm ?z_len ?z_abs ?z_int ?z_bool ?z_tuple ?z_isinstance ?z_divmod ?z_max ?z_min ?z_range ?z_all ?z_repr
    (case aC => k_is)
    (case a_is_integer => k_is)
    (case l_is_integer => k_is)
    (case c_is_integer => k_is)
    (case k_is_integer => k_is)
    (case a_is_integer_within => k_is)
    (case l_is_integer_within => k_is)
    (case c_is_integer_within => k_is)
    (case k_is_integer_within => k_is)
    (case a_common_divisor => k_is)
    (case l_common_divisor => k_is)
    (case c_common_divisor => k_is)
    (case k_common_divisor => k_is)
    (case a_lowest_terms => k_is)
    (case l_lowest_terms => k_is)
    (case c_lowest_terms => k_is)
    (case k_lowest_terms => k_is)
    (case a_sign => k_is)
    (case l_sign => k_is)
    (case c_sign => k_is)
    (case k_sign => k_is)
    (case a_square_root => k_is)
    (case l_square_root => k_is)
    (case c_square_root => k_is)
    (case k_square_root => k_is)
    (case a_under_root => k_is)
    (case l_under_root => k_is)
    (case c_under_root => k_is)
    (case k_under_root => k_is)
    (case a_floor_of => k_is)
    (case l_floor_of => k_is)
    (case c_floor_of => k_is)
    (case k_floor_of => k_is)
    (case a_equation_of_fraction => k_is)
    (case l_equation_of_fraction => k_is)
    (case c_equation_of_fraction => k_is)
    (case k_equation_of_fraction => k_is)
    (case a_simplest_equation => k_is)
    (case l_simplest_equation => k_is)
    (case c_simplest_equation => k_is)
    (case k_simplest_equation => k_is)
    (case a_beside_fraction => k_is)
    (case l_beside_fraction => k_is)
    (case c_beside_fraction => k_is)
    (case k_beside_fraction => k_is)
    (case a_sign_along_line => k_is)
    (case l_sign_along_line => k_is)
    (case c_sign_along_line => k_is)
    (case k_sign_along_line => k_is)
    (case a_law_cup => k_is)
    (case l_law_cup => k_is)
    (case c_law_cup => k_is)
    (case k_law_cup => k_is)
    (case a_law_sip => k_is)
    (case l_law_sip => k_is)
    (case c_law_sip => k_is)
    (case k_law_sip => k_is)
    (case a_law_pick => k_is)
    (case l_law_pick => k_is)
    (case c_law_pick => k_is)
    (case k_law_pick => k_is)
    (case a_law_pair => k_is)
    (case l_law_pair => k_is)
    (case c_law_pair => k_is)
    (case k_law_pair => k_is)
    (case a_law_ten => k_is)
    (case l_law_ten => k_is)
    (case c_law_ten => k_is)
    (case k_law_ten => k_is)
    (case a_law_root => k_is)
    (case l_law_root => k_is)
    (case c_law_root => k_is)
    (case k_law_root => k_is)
    (case a_law_normal => k_is)
    (case l_law_normal => k_is)
    (case c_law_normal => k_is)
    (case k_law_normal => k_is)
    (case a_law_side => k_is)
    (case l_law_side => k_is)
    (case c_law_side => k_is)
    (case k_law_side => k_is)
    (case a_law_three => k_is)
    (case l_law_three => k_is)
    (case c_law_three => k_is)
    (case k_law_three => k_is)
    (case a_law_small => k_is)
    (case l_law_small => k_is)
    (case c_law_small => k_is)
    (case k_law_small => k_is)
    (case a_law_figures => k_is)
    (case l_law_figures => k_is)
    (case c_law_figures => k_is)
    (case k_law_figures => k_is)
    (case a_law_due => k_is)
    (case l_law_due => k_is)
    (case c_law_due => k_is)
    (case k_law_due => k_is)
    (case a_law_right => k_is)
    (case l_law_right => k_is)
    (case c_law_right => k_is)
    (case k_law_right => k_is)
    (case a_law => k_is)
    (case l_law => k_is)
    (case c_law => k_is)
    (case k_law => k_is)
    (case a_Exact_init => k_is)
    (case i_Exact_init => k_is)
    (case l_Exact_init => k_is)
    (case c_Exact_init => k_is)
    (case k_Exact_init => k_is)
    (case a_Exact_floor => k_is)
    (case i_Exact_floor => k_is)
    (case l_Exact_floor => k_is)
    (case c_Exact_floor => k_is)
    (case k_Exact_floor => k_is)
    (case a_Exact_order => k_is)
    (case i_Exact_order => k_is)
    (case l_Exact_order => k_is)
    (case c_Exact_order => k_is)
    (case k_Exact_order => k_is)
    (case a_Exact_eq => k_is)
    (case i_Exact_eq => k_is)
    (case l_Exact_eq => k_is)
    (case c_Exact_eq => k_is)
    (case k_Exact_eq => k_is)
    (case aP => k_is)
    (case pg => k_is)
    (case hd => k_is)
    (case po => k_is)
    (case sa => k_is)
    (case mk => k_is)
    (case kc => k_is)
    (case nP => k_is)
    (case ca => k_is)
    (case cn => k_is)
    (case ct => k_is)
    (case cm => k_is)
    (case z_len => k_is)
    (case z_abs => k_is)
    (case z_int => k_is)
    (case z_bool => k_is)
    (case z_tuple => k_is)
    (case z_isinstance => k_is)
    (case z_divmod => k_is)
    (case z_max => k_is)
    (case z_min => k_is)
    (case z_range => k_is)
    (case z_all => k_is)
    (case z_repr => k_is)

