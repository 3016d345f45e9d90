import PyProof.Rows.All
import Wide.All
import OpenK.AllK
import Wide.FinOn
import HandS.ForMost
import HandS.IsInst
import HandS.Wide
import HandS.WideBits
import HandS.MakeKwOnly
import HandS.SlotsOwn
import PyProof.ReprRoads
import HandS.Exc
import KE.KExcInit
import HandS.ExcInit
import HandS.ClsMeth
import KE.KExcIs
import PyProof.CallFns
import HandS.Dict
import HandS.Iter
import HandS.Codes
import PyProof.P3Eq
import PyProof.ExcBaseAll.LookupError
import PyProof.ExcBaseAll.ArithmeticError
import PyProof.ExcBaseAll.ValueError
import PyProof.InstStoreFacts
import KE.RegKIsAll
import PySem.Challenge.RW_rungladders_k01_constants_and_errors
set_option Elab.async false
set_option linter.all false
set_option maxRecDepth 100000
/-! The mathematics: whole roots, common divisors, the one equation of a number, its sign beside a fraction. -/
namespace RL
/-- small: fewer than 2 ^ n -/
def Sm (n : Nat) (x : Int) : Prop := x.natAbs < 2 ^ n
theorem Sm.mono {m n : Nat} {x : Int} (h : Sm m x) (l : m ≤ n) : Sm n x := Nat.lt_of_lt_of_le h (Nat.pow_le_pow_right (by decide) l)
theorem Sm.mul {m n : Nat} {x y : Int} (h : Sm m x) (k : Sm n y) : Sm (m + n) (x * y) := by
  unfold Sm at *
  rw [Int.natAbs_mul, Nat.pow_add]
  exact Nat.mul_lt_mul'' h k
theorem Sm.add {n : Nat} {x y : Int} (h : Sm n x) (k : Sm n y) : Sm (n + 1) (x + y) := by
  unfold Sm at *
  rw [Nat.pow_succ]
  omega
theorem Sm.sub {n : Nat} {x y : Int} (h : Sm n x) (k : Sm n y) : Sm (n + 1) (x - y) := by
  unfold Sm at *
  rw [Nat.pow_succ]
  omega
theorem Sm.neg {n : Nat} {x : Int} (h : Sm n x) : Sm n (-x) := by
  unfold Sm at *
  omega
theorem Sm.of {n : Nat} {x y : Int} (h : Sm n y) (a : -y ≤ x) (b : x ≤ y) : Sm n x := by
  unfold Sm at *
  omega
theorem Sm.div {n : Nat} {x y : Int} (h : Sm n x) (hy : 0 < y) : Sm n (x / y) := by
  unfold Sm at *
  have h1 : (x / y).natAbs ≤ x.natAbs := by
    rcases Int.le_total 0 x with hx | hx
    · have := Int.ediv_le_self y hx
      have := Int.ediv_nonneg hx (Int.le_of_lt hy)
      omega
    · have h3 : x / y ≤ 0 := by
        have := Int.ediv_le_ediv hy hx
        simpa using this
      have h2 : x ≤ x / y := by
        have h4 : x * y ≤ x := by
          have q := Int.mul_nonneg (a := -x) (b := y - 1) (by omega) (by omega)
          have e : -x * (y - 1) = x - x * y := by grind
          omega
        exact (Int.le_ediv_iff_mul_le hy).mpr h4
      omega
  omega
theorem sm40 {x : Int} (a : -(10 ^ 40) ≤ x) (b : x ≤ 10 ^ 40) : Sm 133 x := by
  unfold Sm
  have : (10 : Int) ^ 40 < 2 ^ 133 := by decide
  have e : ((2 ^ 133 : Nat) : Int) = 2 ^ 133 := by decide
  omega
/-! ### whole roots -/
def IsRt (w r : Int) : Prop := 0 ≤ r ∧ r * r ≤ w ∧ w < (r + 1) * (r + 1)
theorem IsRt.le {w r s : Int} (h : IsRt w r) (k : IsRt w s) : r ≤ s := by
  obtain ⟨h0, h1, h2⟩ := h
  obtain ⟨k0, k1, k2⟩ := k
  rcases Int.lt_or_le s r with l | l
  · have : (s + 1) * (s + 1) ≤ r * r := Int.mul_le_mul (by omega) (by omega) (by omega) (by omega)
    omega
  · exact l
theorem IsRt.eq {w r s : Int} (h : IsRt w r) (k : IsRt w s) : r = s := Int.le_antisymm (h.le k) (k.le h)
def rtN : Nat → Nat
  | 0 => 0
  | n + 1 => if (rtN n + 1) * (rtN n + 1) ≤ n + 1 then rtN n + 1 else rtN n
theorem rtN_is : ∀ n, rtN n * rtN n ≤ n ∧ n < (rtN n + 1) * (rtN n + 1)
  | 0 => ⟨Nat.le_refl _, by decide⟩
  | n + 1 => by
    have ih := rtN_is n
    unfold rtN
    split
    · rename_i h
      refine ⟨h, ?_⟩
      have : (rtN n + 1 + 1) * (rtN n + 1 + 1) = (rtN n + 1) * (rtN n + 1) + 2 * (rtN n + 1) + 1 := by grind
      omega
    · rename_i h
      omega
def rt (w : Int) : Int := (rtN w.toNat : Int)
theorem rt_is {w : Int} (h : 0 ≤ w) : IsRt w (rt w) := by
  have k := rtN_is w.toNat
  have e : (w.toNat : Int) = w := Int.toNat_of_nonneg h
  refine ⟨Int.natCast_nonneg _, ?_, ?_⟩
  · have := Int.ofNat_le.mpr k.1
    rw [Int.natCast_mul, e] at this
    exact this
  · have := Int.ofNat_lt.mpr k.2
    rw [Int.natCast_mul, e, Int.natCast_add] at this
    exact this
theorem rt_of {w r : Int} (h : IsRt w r) : r = rt w := h.eq (rt_is (Int.le_trans (Int.mul_nonneg h.1 h.1) h.2.1))
theorem rt_sm {n : Nat} {w : Int} (h0 : 0 ≤ w) (h : Sm (2 * n) w) : Sm n (rt w) := by
  obtain ⟨a, b, _⟩ := rt_is h0
  unfold Sm at *
  refine Nat.lt_of_not_le fun q => ?_
  have e : (2 : Nat) ^ (2 * n) = 2 ^ n * 2 ^ n := by rw [← Nat.pow_add]; congr 1; omega
  have : 2 ^ n * 2 ^ n ≤ (rt w).natAbs * (rt w).natAbs := Nat.mul_le_mul q q
  have e2 : (rt w * rt w).natAbs = (rt w).natAbs * (rt w).natAbs := Int.natAbs_mul _ _
  have : (rt w * rt w).natAbs ≤ w.natAbs := by
    have := Int.mul_nonneg a a
    omega
  omega
/-- a step of Newton's -/
theorem newton {n g : Int} (hn : 0 ≤ n) (hg : 0 ≤ g) (h : n < (g + 1) * (g + 1)) (l : n < g * g) :
    0 < g ∧ 0 ≤ (g + n / g) / 2 ∧ (g + n / g) / 2 < g ∧ n < ((g + n / g) / 2 + 1) * ((g + n / g) / 2 + 1) := by
  have g0 : 0 < g := by
    rcases Int.lt_or_le 0 g with q | q
    · exact q
    · have : g = 0 := by omega
      subst this
      omega
  have q0 : 0 ≤ n / g := Int.ediv_nonneg hn hg
  have q1 : n < g * (n / g + 1) := by
    have := Int.lt_mul_ediv_self_add (x := n) (k := g) g0
    rw [Int.mul_add, Int.mul_one]
    exact this
  have q2 : n / g < g := Int.ediv_lt_of_lt_mul g0 l
  generalize n / g = q at *
  have hm : g + q ≤ 2 * ((g + q) / 2) + 1 := by omega
  have h0 : 0 ≤ (g + q) / 2 := by omega
  have h1 : (g + q) / 2 < g := by omega
  generalize (g + q) / 2 = m at *
  refine ⟨g0, h0, h1, ?_⟩
  have a1 : (g + q + 1) * (g + q + 1) ≤ (2 * (m + 1)) * (2 * (m + 1)) := Int.mul_le_mul (by omega) (by omega) (by omega) (by omega)
  have a2 : 0 ≤ (g - q - 1) * (g - q - 1) := by
    rcases Int.le_total 0 (g - q - 1) with z | z
    · exact Int.mul_nonneg z z
    · exact Int.mul_nonneg_of_nonpos_of_nonpos z z
  have a3 : (g + q + 1) * (g + q + 1) = 4 * (g * (q + 1)) + (g - q - 1) * (g - q - 1) := by grind
  have a4 : (2 * (m + 1)) * (2 * (m + 1)) = 4 * ((m + 1) * (m + 1)) := by grind
  omega
/-! ### common divisors -/
def gc (a b : Int) : Int := (Int.gcd a b : Int)
theorem gc_nonneg (a b : Int) : 0 ≤ gc a b := Int.natCast_nonneg _
theorem gc_pos {a b : Int} (h : a ≠ 0 ∨ b ≠ 0) : 0 < gc a b := by
  unfold gc
  have : 0 < Int.gcd a b := by
    rcases Nat.eq_zero_or_pos (Int.gcd a b) with z | z
    · rw [Int.gcd_eq_zero_iff] at z
      omega
    · exact z
  omega
theorem gc_dvd1 (a b : Int) : gc a b ∣ a := Int.gcd_dvd_left ..
theorem gc_dvd2 (a b : Int) : gc a b ∣ b := Int.gcd_dvd_right ..
theorem gc_zero {a : Int} (h : 0 ≤ a) : gc a 0 = a := by
  unfold gc
  rw [Int.gcd_zero_right]
  omega
theorem gc_step {a b : Int} (ha : 0 ≤ a) (hb : 0 < b) : gc b (a % b) = gc a b := by
  obtain ⟨n, rfl⟩ := Int.eq_ofNat_of_zero_le ha
  obtain ⟨m, rfl⟩ := Int.eq_ofNat_of_zero_le (Int.le_of_lt hb)
  unfold gc
  congr 1
  rw [← Int.natCast_emod, Int.gcd_natCast_natCast, Int.gcd_natCast_natCast, Nat.gcd_comm, ← Nat.gcd_rec, Nat.gcd_comm]
theorem gc_abs (a b : Int) : gc (if a < 0 then -a else a) (if b < 0 then -b else b) = gc a b := by
  unfold gc
  congr 1
  split <;> split <;> simp
theorem gc_abs2 (a b : Int) : gc a (if b < 0 then -b else b) = gc a b := by
  unfold gc
  congr 1
  split <;> simp
theorem ex_mul {g a : Int} (h : g ∣ a) (hg : 0 < g) : a = g * (a / g) := (Int.mul_ediv_cancel' h).symm
/-! ### the one equation of a number -/
/-- the parts of an equation that is accepted -/
def Good (a b c : Int) : Prop := (a = 0 ∧ 1 ≤ b ∧ 0 ≤ c) ∨ (1 ≤ a ∧ 1 ≤ c)
structure Nrm (a b c s l w : Int) : Prop where
  good : Good s l w
  /-- the sign beside x / y -/
  sgn : ∀ x y : Int, 0 ≤ x → 1 ≤ y → (0 < w * y * y - l * x * y - s * x * x ↔ a * x * x + b * x * y - c * y * y < 0) ∧ (w * y * y - l * x * y - s * x * x = 0 ↔ a * x * x + b * x * y - c * y * y = 0)
/-- multiplied by a number above 0 -/
theorem pos_iff {k u : Int} (hk : 0 < k) : (0 < k * u ↔ 0 < u) ∧ (k * u = 0 ↔ u = 0) := by
  refine ⟨⟨fun h => ?_, fun h => Int.mul_pos hk h⟩, ⟨fun h => ?_, fun h => by rw [h, Int.mul_zero]⟩⟩
  · rcases Int.lt_or_le 0 u with z | z
    · exact z
    · have := Int.mul_nonpos_of_nonneg_of_nonpos (Int.le_of_lt hk) z
      omega
  · rcases Int.mul_eq_zero.mp h with z | z
    · omega
    · exact z
theorem nrm_div {a b c g : Int} (h : Good a b c) (hg : 0 < g) (da : g ∣ a) (db : g ∣ b) (dc : g ∣ c) : Nrm a b c (a / g) (b / g) (c / g) := by
  have ea := ex_mul da hg
  have eb := ex_mul db hg
  have ec := ex_mul dc hg
  generalize a / g = s at *
  generalize b / g = l at *
  generalize c / g = w at *
  subst ea eb ec
  refine ⟨?_, fun x y hx hy => ?_⟩
  · rcases h with ⟨h1, h2, h3⟩ | ⟨h1, h2⟩
    · refine .inl ⟨((pos_iff hg).2.mp h1), ?_, ?_⟩
      · have := (pos_iff (u := l) hg).1.mp (by omega)
        omega
      · rcases Int.lt_or_le w 0 with z | z
        · have := Int.mul_neg_of_pos_of_neg hg z
          omega
        · exact z
    · refine .inr ⟨?_, ?_⟩
      · have := (pos_iff (u := s) hg).1.mp (by omega)
        omega
      · have := (pos_iff (u := w) hg).1.mp (by omega)
        omega
  · have e : g * s * x * x + g * l * x * y - g * w * y * y = -(g * (w * y * y - l * x * y - s * x * x)) := by grind
    rw [e]
    have := pos_iff (k := g) (u := w * y * y - l * x * y - s * x * x) hg
    refine ⟨?_, ?_⟩
    · rw [← this.1]; omega
    · rw [← this.2]; omega
theorem rt_gt {b t r : Int} (ht : 0 < t) (hr : 0 ≤ r) (e : b * b + t = r * r) : 0 < r + b ∧ 0 < r - b := by
  refine ⟨?_, ?_⟩
  · rcases Int.lt_or_le 0 (r + b) with z | z
    · exact z
    · have h1 : 0 ≤ (-b - r) * (-b + r) := Int.mul_nonneg (by omega) (by omega)
      have h2 : (-b - r) * (-b + r) = b * b - r * r := by grind
      omega
  · rcases Int.lt_or_le 0 (r - b) with z | z
    · exact z
    · have h1 : 0 ≤ (b - r) * (b + r) := Int.mul_nonneg (by omega) (by omega)
      have h2 : (b - r) * (b + r) = b * b - r * r := by grind
      omega
theorem nrm_root {a b c r g : Int} (ha : 1 ≤ a) (hc : 1 ≤ c) (hr : 0 ≤ r) (e : b * b + 4 * a * c = r * r) (hg : 0 < g) (d1 : g ∣ r - b) (d2 : g ∣ 2 * a) : Nrm a b c 0 (2 * a / g) ((r - b) / g) := by
  have hac : 0 < 4 * a * c := Int.mul_pos (by omega) (by omega)
  obtain ⟨p1, p2⟩ := rt_gt hac hr e
  have e1 := ex_mul d1 hg
  have e2 := ex_mul d2 hg
  have l0 : 1 ≤ 2 * a / g := by
    have := (pos_iff (u := 2 * a / g) hg).1.mp (by omega)
    omega
  have w0 : 1 ≤ (r - b) / g := by
    have := (pos_iff (u := (r - b) / g) hg).1.mp (by omega)
    omega
  generalize 2 * a / g = l at *
  generalize (r - b) / g = w at *
  refine ⟨.inl ⟨rfl, l0, by omega⟩, fun x y hx hy => ?_⟩
  have k : 0 < r * y + b * y + 2 * a * x := by
    have h1 : 0 < (r + b) * y := Int.mul_pos p1 (by omega)
    have h2 : 0 ≤ 2 * a * x := Int.mul_nonneg (by omega) hx
    have h3 : (r + b) * y = r * y + b * y := by grind
    omega
  have y0 : 0 < y := by omega
  -- y * g * (w y - l x) = y * ((r - b) y - 2 a x)
  have f1 : g * (w * y * y - l * x * y - 0 * x * x) = y * ((r - b) * y - 2 * a * x) := by
    rw [e1, e2]; grind
  have f2 : 4 * a * (c * y * y - a * x * x - b * x * y) = (r * y + b * y + 2 * a * x) * ((r - b) * y - 2 * a * x) := by grind
  have q1 := pos_iff (u := w * y * y - l * x * y - 0 * x * x) hg
  have q2 := pos_iff (u := (r - b) * y - 2 * a * x) y0
  have q3 := pos_iff (k := 4 * a) (u := c * y * y - a * x * x - b * x * y) (by omega)
  have q4 := pos_iff (u := (r - b) * y - 2 * a * x) k
  rw [f1] at q1
  rw [f2] at q3
  refine ⟨?_, ?_⟩
  · rw [← q1.1, q2.1, ← q4.1, q3.1]; omega
  · rw [← q1.2, q2.2, ← q4.2, q3.2]; omega
/-- what the program keeps of an equation -/
def parts (a b c : Int) : Int × Int × Int :=
  if a = 0 then (0, b / gc c b, c / gc c b)
  else if rt (b * b + 4 * a * c) * rt (b * b + 4 * a * c) = b * b + 4 * a * c then
    (0, 2 * a / gc (rt (b * b + 4 * a * c) - b) (2 * a), (rt (b * b + 4 * a * c) - b) / gc (rt (b * b + 4 * a * c) - b) (2 * a))
  else (a / gc (gc a b) c, b / gc (gc a b) c, c / gc (gc a b) c)
theorem inside_pos {a b c : Int} (h : 1 ≤ a ∧ 1 ≤ c) : 0 < 4 * a * c ∧ 0 ≤ b * b + 4 * a * c := by
  have hac : 0 < 4 * a * c := Int.mul_pos (by omega) (by omega)
  have hb : 0 ≤ b * b := by
    rcases Int.le_total 0 b with z | z
    · exact Int.mul_nonneg z z
    · exact Int.mul_nonneg_of_nonpos_of_nonpos z z
  omega
theorem parts_nrm {a b c : Int} (h : Good a b c) : Nrm a b c (parts a b c).1 (parts a b c).2.1 (parts a b c).2.2 := by
  unfold parts
  rcases h with ⟨rfl, h2, h3⟩ | h
  · rw [if_pos rfl]
    have g0 : 0 < gc c b := gc_pos (.inr (by omega))
    have := nrm_div (a := 0) (b := b) (c := c) (.inl ⟨rfl, h2, h3⟩) g0 (Int.dvd_zero _) (gc_dvd2 _ _) (gc_dvd1 _ _)
    rw [Int.zero_ediv] at this
    exact this
  · rw [if_neg (by omega)]
    have k := inside_pos (b := b) h
    split
    · rename_i e
      exact nrm_root h.1 h.2 (rt_is k.2).1 e.symm (gc_pos (.inr (by omega))) (gc_dvd1 _ _) (gc_dvd2 _ _)
    · exact nrm_div (.inr h) (gc_pos (.inr (by omega))) (Int.dvd_trans (gc_dvd1 _ _) (gc_dvd1 _ _)) (Int.dvd_trans (gc_dvd1 _ _) (gc_dvd2 _ _)) (gc_dvd2 _ _)
theorem parts_sm {a b c : Int} (h : Good a b c) (ha : Sm 133 a) (hb : Sm 133 b) (hc : Sm 133 c) : Sm 150 (parts a b c).1 ∧ Sm 150 (parts a b c).2.1 ∧ Sm 150 (parts a b c).2.2 := by
  unfold parts
  rcases h with ⟨rfl, h2, h3⟩ | h
  · rw [if_pos rfl]
    have g0 : 0 < gc c b := gc_pos (.inr (by omega))
    exact ⟨show Sm 150 0 by unfold Sm; decide, (hb.div g0).mono (by decide), (hc.div g0).mono (by decide)⟩
  · rw [if_neg (by omega)]
    have k := inside_pos (b := b) h
    have hd : Sm 270 (b * b + 4 * a * c) := by
      have h4 : Sm 3 4 := by unfold Sm; decide
      have e1 : Sm (133 + 133) (b * b) := hb.mul hb
      have e2 : Sm (3 + 133 + 133) (4 * a * c) := (h4.mul ha).mul hc
      exact (Sm.add (n := 269) (e1.mono (by decide)) (e2.mono (by decide)))
    have hr : Sm 135 (rt (b * b + 4 * a * c)) := rt_sm (n := 135) k.2 hd
    have h2 : Sm 2 2 := by unfold Sm; decide
    split
    · have g0 : 0 < gc (rt (b * b + 4 * a * c) - b) (2 * a) := gc_pos (.inr (by omega))
      refine ⟨show Sm 150 0 by unfold Sm; decide, ?_, ?_⟩
      · exact ((h2.mul ha).div g0).mono (by decide)
      · exact ((hr.sub (hb.mono (by decide))).div g0).mono (by decide)
    · have g0 : 0 < gc (gc a b) c := gc_pos (.inr (by omega))
      exact ⟨(ha.div g0).mono (by decide), (hb.div g0).mono (by decide), (hc.div g0).mono (by decide)⟩
/-! ### beside a fraction -/
def sg (n : Int) : Int := if 0 < n then 1 else if n < 0 then -1 else 0
/-- the law's side -/
def side (a b c x y : Int) : Int := if y = 0 then -1 else sg (-(a * x * x + b * x * y - c * y * y))
def beside (s l w x y : Int) : Int := sg (w * y * y - l * x * y - s * x * x)
theorem Nrm.side {a b c s l w x y : Int} (h : Nrm a b c s l w) (hx : 0 ≤ x) (hy : 1 ≤ y) : beside s l w x y = RL.side a b c x y := by
  obtain ⟨k1, k2⟩ := h.sgn x y hx hy
  unfold beside RL.side sg
  rw [if_neg (show ¬ y = 0 by omega)]
  generalize w * y * y - l * x * y - s * x * x = u at *
  generalize a * x * x + b * x * y - c * y * y = v at *
  by_cases p : 0 < u
  · have := k1.mp p
    rw [if_pos p, if_pos (by omega)]
  · by_cases q : u = 0
    · have := k2.mp q
      rw [if_neg p, if_neg (by omega), if_neg (by omega), if_neg (by omega)]
    · have : ¬ v < 0 := fun z => p (k1.mpr z)
      have : ¬ v = 0 := fun z => q (k2.mpr z)
      rw [if_neg p, if_pos (by omega), if_neg (by omega), if_pos (by omega)]
/-- the same fraction written otherwise -/
theorem side_same {a b c x y k : Int} (hk : 1 ≤ k) (hy : 1 ≤ y) : RL.side a b c (k * x) (k * y) = RL.side a b c x y := by
  unfold RL.side
  have h0 : ¬ k * y = 0 := by
    have := Int.mul_pos (a := k) (b := y) (by omega) (by omega)
    omega
  rw [if_neg h0, if_neg (show ¬ y = 0 by omega)]
  have kk : 0 < k * k := Int.mul_pos (by omega) (by omega)
  have e : -(a * (k * x) * (k * x) + b * (k * x) * (k * y) - c * (k * y) * (k * y)) = k * k * (-(a * x * x + b * x * y - c * y * y)) := by grind
  rw [e]
  generalize -(a * x * x + b * x * y - c * y * y) = u
  have q := pos_iff (u := u) kk
  unfold sg
  by_cases p : 0 < u
  · rw [if_pos p, if_pos (q.1.mpr p)]
  · by_cases z : u = 0
    · subst z
      rw [Int.mul_zero]
    · have h1 : ¬ 0 < k * k * u := fun t => p (q.1.mp t)
      have h2 : ¬ k * k * u = 0 := fun t => z (q.2.mp t)
      rw [if_neg p, if_pos (show u < 0 by omega), if_neg h1, if_pos (show k * k * u < 0 by omega)]
/-! ### floors -/
def flo (s l w t : Int) : Int := if s = 0 then t * w / l else (rt (t * t * (l * l + 4 * s * w)) - t * l) / (2 * s)
theorem flo_is {s l w t : Int} (h : Good s l w) (ht : 1 ≤ t) : 0 ≤ flo s l w t ∧ 0 ≤ beside s l w (flo s l w t) t ∧ beside s l w (flo s l w t + 1) t = -1 := by
  have sgp : ∀ n : Int, 0 ≤ n → 0 ≤ sg n := fun n hn => by
    unfold sg
    split
    · decide
    · split
      · omega
      · decide
  have sgn : ∀ n : Int, n < 0 → sg n = -1 := fun n hn => by
    unfold sg
    rw [if_neg (by omega), if_pos hn]
  unfold flo
  rcases h with ⟨rfl, h2, h3⟩ | h
  · rw [if_pos rfl]
    have l0 : 0 < l := by omega
    have d1 := Int.mul_ediv_self_le (x := t * w) (k := l) (by omega)
    have d2 := Int.lt_mul_ediv_self_add (x := t * w) (k := l) l0
    have d0 : 0 ≤ t * w / l := Int.ediv_nonneg (Int.mul_nonneg (by omega) h3) (by omega)
    generalize t * w / l = q at *
    refine ⟨d0, sgp _ ?_, sgn _ ?_⟩
    · have : w * t * t - l * q * t - 0 * q * q = t * (t * w - l * q) := by grind
      rw [this]
      exact Int.mul_nonneg (by omega) (by omega)
    · have : w * t * t - l * (q + 1) * t - 0 * (q + 1) * (q + 1) = -(t * (l * q + l - t * w)) := by grind
      rw [this]
      have := Int.mul_pos (a := t) (b := l * q + l - t * w) (by omega) (by omega)
      omega
  · rw [if_neg (by omega)]
    have hsw : 0 < 4 * s * w := Int.mul_pos (by omega) (by omega)
    have ll : 0 ≤ l * l := by
      rcases Int.le_total 0 l with z | z
      · exact Int.mul_nonneg z z
      · exact Int.mul_nonneg_of_nonpos_of_nonpos z z
    have w0 : 0 ≤ t * t * (l * l + 4 * s * w) := Int.mul_nonneg (Int.mul_nonneg (by omega) (by omega)) (by omega)
    obtain ⟨r0, r1, r2⟩ := rt_is w0
    generalize er : rt (t * t * (l * l + 4 * s * w)) = r at *
    -- r is at least t * l either way
    have rl : -r ≤ t * l ∧ t * l ≤ r := by
      have h0 : t * l * (t * l) ≤ t * t * (l * l + 4 * s * w) := by
        have e : t * t * (l * l + 4 * s * w) = t * l * (t * l) + t * t * (4 * s * w) := by grind
        have := Int.mul_nonneg (a := t * t) (b := 4 * s * w) (Int.mul_nonneg (by omega) (by omega)) (by omega)
        omega
      refine ⟨?_, ?_⟩
      · rcases Int.lt_or_le (t * l) (-r) with z | z
        · have : (r + 1) * (r + 1) ≤ (-(t * l)) * (-(t * l)) := Int.mul_le_mul (by omega) (by omega) (by omega) (by omega)
          have e : (-(t * l)) * (-(t * l)) = t * l * (t * l) := by grind
          omega
        · exact z
      · rcases Int.lt_or_le r (t * l) with z | z
        · have : (r + 1) * (r + 1) ≤ (t * l) * (t * l) := Int.mul_le_mul (by omega) (by omega) (by omega) (by omega)
          omega
        · exact z
    have s0 : 0 < 2 * s := by omega
    have d1 := Int.mul_ediv_self_le (x := r - t * l) (k := 2 * s) (by omega)
    have d2 := Int.lt_mul_ediv_self_add (x := r - t * l) (k := 2 * s) s0
    have d0 : 0 ≤ (r - t * l) / (2 * s) := Int.ediv_nonneg (by omega) (by omega)
    generalize (r - t * l) / (2 * s) = q at *
    have f : ∀ z : Int, 4 * s * (w * t * t - l * z * t - s * z * z) = t * t * (l * l + 4 * s * w) - (2 * s * z + t * l) * (2 * s * z + t * l) := fun z => by grind
    have sp : 0 < 4 * s := by omega
    refine ⟨d0, sgp _ ?_, sgn _ ?_⟩
    · have u1 : 0 ≤ 2 * s * q := Int.mul_nonneg (by omega) d0
      have u2 : (2 * s * q + t * l) * (2 * s * q + t * l) ≤ r * r := by
        rcases Int.le_total 0 (2 * s * q + t * l) with z | z
        · exact Int.mul_le_mul (by omega) (by omega) (by omega) (by omega)
        · have := Int.mul_le_mul (a := -(2 * s * q + t * l)) (b := -(2 * s * q + t * l)) (c := r) (d := r) (by omega) (by omega) (by omega) (by omega)
          have e : (-(2 * s * q + t * l)) * (-(2 * s * q + t * l)) = (2 * s * q + t * l) * (2 * s * q + t * l) := by grind
          omega
      have u3 := f q
      have u4 := pos_iff (u := w * t * t - l * q * t - s * q * q) sp
      rcases Int.lt_or_le (w * t * t - l * q * t - s * q * q) 0 with z | z
      · have := Int.mul_neg_of_pos_of_neg sp z
        omega
      · exact z
    · have u0 : 2 * s * (q + 1) = 2 * s * q + 2 * s := by grind
      have u2 : (r + 1) * (r + 1) ≤ (2 * s * (q + 1) + t * l) * (2 * s * (q + 1) + t * l) := Int.mul_le_mul (by omega) (by omega) (by omega) (by omega)
      have u3 := f (q + 1)
      rcases Int.lt_or_le (w * t * t - l * (q + 1) * t - s * (q + 1) * (q + 1)) 0 with z | z
      · exact z
      · have := Int.mul_nonneg (Int.le_of_lt sp) z
        omega
end RL

/-! Defs that are called where no repr is under way: repr of lists and tuples within them; == by an own __eq__. -/
namespace RL
open PySem L2 PySem.Spec PyProof.Rows
structure FnG (P : Program) (w : World) (K : PySem.W.Frag) (mg : Str → Option Value) (base : Heap) (k : Nat) (f : Addr) (fd : FuncData) (ps : List Str) (sp : Sp) : Prop where
  len : ∀ vs H Q E, sp vs H Q E → vs.length = ps.length
  run : ∀ (A : Around) (outer : List Env) (s : Shared) (H : Hp) (args : Args) (us : List Value) (vs : List V) (Q : VK) (E : XK), A.guards = some [] → Room k A → Env0 P w K mg base A outer s H → BindsTo s fd args (ps.zip us) → Vals vs us → sp vs H Q E →
    codeAny (model P w) A (.call (.ref f) args) (CR CX0 outer P w H s Q E) s
section
variable {P : Program} {w : World} {K : PySem.W.Frag} {mg : Str → Option Value} {base : Heap}
theorem okG {x qual : Str} {st : Stmt} {f : Addr} {fd : FuncData} {N ps : List Str} {k : Nat} {sp : Sp} (F : Fun K x qual st f fd) (S : FnScope N ps (defScope st)) (len : ∀ vs H Q E, sp vs H Q E → vs.length = ps.length)
    (bd : ∀ (cdv : Value) (A : Around) (outer : List Env) (s : Shared) (H : Hp) (vs : List V) (Q : VK) (E : XK), A.guards = some [] → Room k (A.deeper (envOfC qual (defScope st) s.heap.objs.size f cdv)) → sp vs H Q E →
      ∃ t, PSs (cxOf CX0 P w K mg base N qual (defScope st) f cdv A outer s H E).nox (defBody st) t ∧ t { nx := fun _ H' => Q .non H', rt := Q } (start N vs) H) : FnG P w K mg base (k + 1) f fd ps sp := by
  obtain ⟨oc, od, kV, doc, pm, an, cdv, ct, osl, rfl, lk, hcd⟩ := F.ex
  refine ⟨len, fun A outer s H args us vs Q E hg hr e0 hb r hsp => ?_⟩
  have KX : K.In s.heap := e0.mod.kin.keeps fun b o e => (e0.bs b o e).1
  have lim := e0.mod.nolimit.keeps fun b o e => (e0.bs b o e).1
  refine codeAny_call_function hr.depth (KX _ _ lk) rfl S.co S.gen rfl (PySem.W.codeRec_of KX hcd) (hb _ _ _ _ (wpAny_newFunctionEnv_cells S.kind (fun ⟨n, v⟩ hy => ?_) fun env he s1 x => ?_))
  · exact (S.par n (List.of_mem_zip hy).1).imp id fun q => ⟨q, PySem.W.cellsFrom_some _ _ _ (.inl q)⟩
  · subst he
    obtain ⟨t, ht, hq⟩ := bd cdv A outer s H vs Q E hg (hr.deeper _) hsp
    have I : Inv (cxOf CX0 P w K mg base N qual (defScope st) f cdv A outer s H E) [] (start N vs) H s1 := inv_start S hr.hd e0 (len _ _ _ _ hsp) r x
    refine ⟨lim.keeps x.toInCall.keep, codeAny_func (wpAny_mono (ht.nox.run [] s1 _ H _ I hq) (fun fl s' hs => ?_) fun _ _ z => z)⟩
    cases fl with
    | ret u =>
      obtain ⟨v, σ', H', J, rv, q⟩ := hs
      exact ⟨v, H', J.os, J.bare, J.base, J.hok, rv, q⟩
    | next =>
      obtain ⟨σ', H', J, q⟩ := hs
      exact ⟨V.non, H', J.os, J.bare, J.base, J.hok, rfl, q⟩
    | brk => exact hs.elim fun _ z => z.elim fun _ y => False.elim y.2
    | cont => exact hs.elim fun _ z => z.elim fun _ y => False.elim y.2
end
structure DfG (P : Program) (w : World) (K : PySem.W.Frag) (mg : Str → Option Value) (base : Heap) (k : Nat) (x : Str) (ps : List Str) (sp : Sp) : Prop where
  ex : ∃ (f : Addr) (fd : FuncData), FnG P w K mg base k f fd ps sp ∧ mg x = some (.ref f) ∧ PySem.W.keepIn K (.ref f) = true ∧ Binds K fd ps []
section
variable {X : Cx} {k : Nat} {ps : List Str} {sp : Sp} {x : Str} {p pos : Pos} {e : Expr} {es : List Expr} {t : TA}
theorem pe_dfG (D : DfG X.prog X.w X.K X.mg X.base k x ps sp) (hG : X.A.guards = some []) (hr : Room k X.A) (hg : Gl X x)
    (ha : PA X (e :: es) t) (hdb : (x == ("__debug__" : Str)) = false := by decide) (he : starEach (e :: es) X.env = (false, eval e X.env) :: starEach es X.env := by rfl) (hpl : (backTo pos (starEach es X.env)).any (·.1) = false := by rfl) :
    PE X (.Call (.Name x p) (e :: es) [] pos) (tCall sp [] E0 t) := by
  obtain ⟨f, fd, F, hm, hk, hb⟩ := D.ex
  refine ⟨fun pins s σ H Q I h => wpAny_Call_Name_kw (ld_glob I hg hm (PySem.W.callWith_K (h₀ := X.base) I.ok.mod.kin hk (thn (ha.run pos pins s σ H _ I h) fun us s1 ⟨vs, H1, I1, r, q⟩ => ⟨I1.kIn, ?_⟩) he hpl) hdb)⟩
  have q0 : sp vs H1 Q E0 := by
    have q1 : sp (vs ++ []) H1 Q E0 := q
    rw [List.append_nil] at q1
    exact q1
  have hl : (us ++ []).length = ps.length := by
    rw [List.append_nil, ← r.length]
    exact F.len _ _ _ _ q0
  have hbb := hb s1 us I1.kIn hl
  rw [List.append_nil] at hbb
  refine wpAny_call (codeAny_mono (F.run X.A X.stack s1 H1 ⟨us, []⟩ us vs Q E0 hG hr I1.env0 hbb r q0) fun z s' hq => ?_)
  cases z with
  | error e => exact hq.elim
  | ok fl =>
    cases fl with
    | ret u => exact I1.after hq
    | next => exact hq.elim
    | brk => exact hq.elim
    | cont => exact hq.elim
/-! ### repr of a list or tuple of plain things -/
def rRepr (K : PySem.W.Frag) : List V → Hp → VK → Prop := fun vs H Q => ∃ (a : Addr) (d : PyData), vs = [.ref a] ∧ Dp K H (.ref a) d ∧ d.showable = true ∧ d.hasDict = false ∧ d.depth ≤ 40 ∧ d.shown.length ≤ sizeLine ∧ Q (.str d.shown) H
theorem cr_repr (hG : X.A.guards = some []) (hu : X.A.units + 64 < cLine) : CallR X (.builtin "repr") (rRepr X.K) := by
  intro pins s σ H vs us Q I r h
  obtain ⟨a, d, rfl, hd, h1, h2, h3, h4, q⟩ := h
  obtain ⟨as, rd⟩ := Dp.reads I d _ (.ref a) hd rfl
  rw [Vals.ref1 r]
  refine repr_of_reads' (h₀ := s.heap) rd h1 (fun z => by rw [h2] at z; cases z) hG (by omega) (fun _ _ z => z) (fun h' u tk hk => ?_) h4
  exact ⟨.str d.shown, H, I.kept hk, ⟨_, rfl⟩, q⟩
/-! ### == by an own __eq__ -/
def rEqOwn (K : PySem.W.Frag) (C : Addr) (sp : Sp) : R2 := fun x y H Q => ∃ a dx fs ty, x = .ref a ∧ H a = some (.ins C dx fs) ∧ TyX K H y ty ∧ PySem.W.notFirst K C ty = true ∧ sp [x, y] H Q E0
theorem op_eqOwn {C g : Addr} {fd : FuncData} (hs : PySem.W.findIn X.K (.ref C) "__eq__" = some (some (.ref g))) (hf : PySem.W.isFn X.K (.ref g) = true) (F : FnOk X.prog X.w X.K X.mg X.base CX0 k g fd ps sp) (hb : Binds X.K fd ps []) (hr : Room k X.A) :
    OpR X (compareOp .Eq) (rEqOwn X.K C sp) := by
  intro pins s σ H x y v u Q I rx ry h
  obtain ⟨a, dx, fs, ty, rfl, ha, hy, hn, q⟩ := h
  cases (show v = Value.ref a from rx)
  obtain ⟨mA, O, _⟩ := ins_get I.hok ha
  obtain ⟨od, J, _⟩ := O.look
  obtain ⟨PH, Z, ph, _⟩ := kit_of I ry hy
  obtain ⟨m, hF⟩ := I.fr
  show wpAny _ _ (richCompare .Eq (.ref a) u) _ _ _
  refine PySem.W.cmp_K (op := .Eq) hr.units0 hF I.ok.mod.kin J (Z.ty _ _ I.kIn ph) hn hs hf ?_
  have q0 : sp ([.ref a, y] ++ []) H Q E0 := q
  refine wpAny_mono (run_fn (us := [.ref a, u]) (vs := [.ref a, y]) F hr hb .nil pass0 I (.cons rfl (.cons ry .nil)) q0) (fun w s' z => ?_) fun _ _ z => z
  obtain ⟨z', H', I', rz, qz⟩ := z
  exact SlX.cmpback rz ⟨z', H', I', rz, qz⟩
end
end RL

/-! The end of a law whose own def is promised where no repr is under way. -/
namespace RL
open PySem L2 PySem.Spec PyProof.Rows
/-- the call, once the abstract heap is chosen -/
theorem law_runG {P : Program} {w : World} {K : PySem.W.Frag} {mg mb : Str → Option Value} {k : Nat} {fa a : Addr} {fd : FuncData} {x : Str} {sp : Sp} {s1 : Shared} {vs : List Value} {H : Hp}
    (KX : K.In s1.heap) (hns : s1.heap.Ns mainGlobals mg) (hb : s1.heap.Ns builtinsNs mb) (hbb : ∀ x : Str, x ≠ "__name__" → mb x = bootBuiltins x) (hlim : s1.heap.NoLimit) (hgen : s1.gens = #[])
    (ha : s1.heap.get? a = some { cls := .type "list", data := .seq vs.toArray }) (hr : Room k callerA)
    (F : ∀ base : Heap, K.In base → base.Ns mainGlobals mg → FnG P w K mg base k fa fd [x] sp) (hbind : ∀ (s : Shared) (u : Value), BindsTo s fd ⟨[u], []⟩ [(x, u)])
    (hO : Only H) (hsp : sp [.ref a] H (fun v _ => v = .bl true) fun _ _ _ => False) (hok : HOk P w H s1.heap) (hA : ∀ b u, H b = some u → b = a ∧ K.lookup a = none) :
    codeAny (model P w) callerA (.call (.ref fa) ⟨[.ref a], []⟩) (fun r s' => r = .ok (.ret (.bool true)) ∧ OldK s1.heap s'.heap ∧ s'.os = s1.os ∧ AllBare s'.gens) s1 := by
  have free : ∀ {b : Addr} {o : Obj}, s1.heap.get? b = some o → (b = a → o.data ≠ .seq vs.toArray) → H b = none := fun {b o} e n => by
    cases q : H b with
    | none => rfl
    | some u =>
      obtain ⟨rfl, _⟩ := hA b u q
      rw [ha] at e
      cases e
      exact absurd rfl (n rfl)
  have ns1 : ∀ {b : Addr} {m : Str → Option Value}, s1.heap.Ns b m → (hidT s1.heap H).Ns b m := fun {b m} ⟨o, es, ep, e, d, r⟩ => ⟨o, es, ep, hidT_get e (free e fun _ z => by rw [d] at z; cases z), d, r⟩
  have kin : K.In (hidT s1.heap H) := fun b o e => hidT_get (KX b o e) (by
    cases q : H b with
    | none => rfl
    | some u =>
      obtain ⟨rfl, z⟩ := hA b u q
      rw [z] at e
      cases e)
  obtain ⟨mc, c1, c2⟩ := hlim
  have e0 : Env0 P w K mg (hidT s1.heap H) callerA [] s1 H :=
    { frames := rfl, mod := ⟨kin, ns1 hns, ⟨mb, ns1 hb, hbb⟩, ⟨mc, ns1 c1, c2⟩⟩, bs := fun b o e => of_hidT e, bsz := Nat.le_of_eq (hidT_size _ _), funs := trivial, frf := fun b z => absurd (show b ∈ ([] : List Addr) from z) (by simp), hok := hok, bare := .of_eq hgen }
  refine codeAny_mono ((F _ kin (ns1 hns)).run callerA [] s1 H ⟨[.ref a], []⟩ [.ref a] [.ref a] _ _ rfl hr e0 (hbind s1 (.ref a)) (.cons rfl .nil) hsp) fun r s' h => ?_
  match r, h with
  | .ok (.ret u), ⟨v, H', os, bare, un, hok', r', q⟩ =>
    cases (show v = V.bl true from q)
    cases (show u = Value.bool true from r')
    refine ⟨rfl, OldK.of_keep fun b o e => ?_, os, bare⟩
    cases q2 : H b with
    | none => exact un.keep b o e q2 (fun z => absurd (show b ∈ ([] : List Addr) from z) (by simp)) (by simp)
    | some u =>
      rcases hO b with z | ⟨ob, xs, z⟩
      · rw [q2] at z
        cases z
      · obtain ⟨e1, _⟩ := hok b _ z
        obtain ⟨e2, _⟩ := hok' b _ (un.frzs b ob _ z)
        rw [e] at e1
        cases e1
        exact e2
theorem walk_ofG {l : PySem.W.OpenLaw} {n k : Nat} {q : Program} {loose : List Str} {XP : (Str → Option Value) → Heap → Prop} {YP : World → Heap → Prop} {d : DefRec} {K : Params → PySem.W.Frag} {sp : World → Sp} {x : Str}
    (hn : l.most = some n) (hn2 : n ≤ sizeLine) (hdf : d.params.defaults = []) (hr : Room k callerA) (hY : ∀ (w : World) (h : Heap), YP w h → (K w.params).In h)
    (F : ∀ (w : World) (mg : Str → Option Value) (fa : Addr) (h : Heap), (K w.params).In h → h.Ns mainGlobals mg → mg d.name = some (.ref fa) →
      ∃ fd : FuncData, (∀ (s : Shared) (u : Value), BindsTo s fd ⟨[u], []⟩ [(x, u)]) ∧ ∀ base : Heap, (K w.params).In base → base.Ns mainGlobals mg → FnG l.prog w (K w.params) mg base k fa fd [x] (sp w))
    (hsp : ∀ (w : World) (H : Hp) (a : Addr) (ns : List Int), ns.length ≤ n → Only H → SqL (K w.params) H a (ns.map V.int) → sp w [.ref a] H (fun v _ => v = .bl true) fun _ _ _ => False) :
    PySem.W.WalkO q loose XP YP l.row.toRowW d [] (fun f vs => PySem.call f vs) := by
  refine Att.attach_call hn hdf fun w s0 s1 mg mb fa o pm cd doc a vs ns G Y ho hd hcd hmg hobj hints hlen hgen => ?_
  have KX := hY w _ Y
  obtain ⟨fd, hb, hF⟩ := F w mg fa _ KX G.T.g hmg
  have rv := vals_ints hints
  have hl : ns.length ≤ sizeLine := Nat.le_trans hlen hn2
  have lenV := hints.length
  cases hk : (K w.params).lookup a with
  | some ob =>
    have e := KX a ob hk
    rw [hobj] at e
    cases e
    refine law_runG (H := fun _ => none) KX G.T.g G.T.b G.T.builtins G.T.nolimit hgen hobj hr hF hb (fun _ => .inl rfl) (hsp w _ a ns hlen (fun _ => .inl rfl) (.inr ⟨_, vs.toArray, _, hk, rfl, rfl, rfl, by rw [List.size_toArray, lenV]; exact hl, by simpa using rv⟩)) (fun b u z => ?_) fun b u z => ?_
    · cases (show (none : Option HO) = some u from z)
    · cases (show (none : Option HO) = some u from z)
  | none =>
    have only : Only (fun b => if b = a then some (HO.frz { cls := .type "list", data := .seq vs.toArray } (.lst (ns.map V.int))) else none) := fun b => by
      by_cases z : b = a
      · exact .inr ⟨_, _, if_pos z⟩
      · exact .inl (if_neg z)
    have at_ : ∀ {b : Addr} {u : HO}, (if b = a then some (HO.frz { cls := .type "list", data := .seq vs.toArray } (.lst (ns.map V.int))) else none) = some u → b = a ∧ u = HO.frz { cls := .type "list", data := .seq vs.toArray } (.lst (ns.map V.int)) := fun {b u} z => by
      by_cases y : b = a
      · rw [if_pos y] at z
        exact ⟨y, (Option.some.inj z).symm⟩
      · rw [if_neg y] at z
        cases z
    refine law_runG (H := fun b => if b = a then some (HO.frz { cls := .type "list", data := .seq vs.toArray } (.lst (ns.map V.int))) else none) KX G.T.g G.T.b G.T.builtins G.T.nolimit hgen hobj hr hF hb only (hsp w _ a ns hlen only (.inl (.inr ⟨_, if_pos rfl⟩))) (fun b u z => ?_) fun b u z => ⟨(at_ z).1, hk⟩
    obtain ⟨rfl, rfl⟩ := at_ z
    exact ⟨hobj, by rw [List.length_map]; exact hl, vs, _, rv, hobj⟩
end RL

set_option maxHeartbeats 2000000
/-! An own exception class called with arguments by position and by keyword, its __init__ a def. -/
namespace PySem
namespace RLX
open PySem.W PySem.Calls PyProof.Rows PySem.HandSPX
section
variable {prog : Program} {w : World} {M : Model} {A : Around} {E : Value → Shared → Prop} {R : Result → Shared → Prop} {h : Heap} {g : Array GenState} {d : Drawn} {t : Nat} {os : OsState}
variable {nm q : Str} {C N : Addr} {bs bm bmB : List Value} {hdct : Bool} {sn : List Str} {sub : List Value} {ab : Bool} {col : Option Bool} {dd : Option Addr} {k0 k1 k2 k3 k5 : Option Value} {B newId initId : String}
/-- the check ahead of the making -/
theorem chk_new (F : ExcBaseFacts B newId initId bmB) (hT : ∀ X : String, bm.contains (.type X) = bmB.contains (.type X)) {rest : List Value} {kw : List (Str × Value)} {Q : Unit → Shared → Prop}
    (hC : h.get? C = some (excClassObj nm q C N bs bm hdct sn sub ab col dd k0 k1 k2 k3 k5 newId)) (hq : Q () ⟨h, g, d, t, os⟩) : wpAny M A (checkBuiltinCall newId ⟨.ref C :: rest, kw⟩) Q E ⟨h, g, d, t, os⟩ := by
  have yB : (Value.ref C :: bm).contains (.type B) = true := by
    rw [List.contains_cons, hT, F.hasB, Bool.or_true]
  have st := F.noStar
  simp only [checkBuiltinCall, F.newKind, F.newSplit, F.newRow]
  repeat (first
    | refine wpAny_loadPart_at hC ?_
    | (refine wpAny_isSubtype_exc hC ?_; rw [yB])
    | refine wpAny_staticBase_exc hC ?_
    | refine wpAny_madeBy_exc hC ?_
    | simp only [bne_self_eq_false, Bool.false_eq_true, if_false]
    | wp_step)
  exact hq
/-- what the making lays: the arguments' tuple, the exception behind it -/
abbrev laid2 (C : Addr) (rest : List Value) (h : Heap) : Heap := (h.push (W.kdv_tup rest)).push (excO C h.objs.size)
theorem run_new (F : ExcBaseFacts B newId initId bmB) (hT : ∀ X : String, bm.contains (.type X) = bmB.contains (.type X)) {rest : List Value} {kw : List (Str × Value)}
    (hC : h.get? C = some (excClassObj nm q C N bs bm hdct sn sub ab col dd k0 k1 k2 k3 k5 newId))
    (hq : R (.ok (.ret (.ref (h.objs.size + 1)))) ⟨laid2 C rest h, g, d, t, os⟩) (hz : rest.length ≤ sizeLine) :
    codeAny (model prog w) A (.builtin newId ⟨.ref C :: rest, kw⟩) R ⟨h, g, d, t, os⟩ := by
  have en := F.ends
  have yB : (Value.ref C :: bm).contains (.type B) = true := by
    rw [List.contains_cons, hT, F.hasB, Bool.or_true]
  have yA : (Value.ref C :: bm).contains (.type "AttributeError") = false := by
    rw [List.contains_cons, hT, F.noAttr]
    rfl
  have yN : (Value.ref C :: bm).contains (.type "NameError") = false := by
    rw [List.contains_cons, hT, F.noName]
    rfl
  refine codeAny_builtinAt F.entry ?_
  unfold Builtin.«BaseException.__new__»
  refine wpAt_bind ?_
  show wpAt _ _ _ (stack >>= _) _ _ _
  refine wpAt_bind (wpAt_stack fun p below => wpAt_of_wpAny ?_)
  wp_walk
  refine wpAt_of_wpAny ?_
  rw [F.owner]
  repeat (first
    | with_reducible refine wpAny_madeHere_exc F.canon hC ?_
    | with_reducible refine wpAny_loadPart_at hC ?_
    | (with_reducible refine wpAny_isSubtype_exc hC ?_; first | rw [yB] | rw [yA] | rw [yN])
    | wp_step)
  show R _ _
  rw [Heap.size_push]
  exact hq
theorem run_typeCall (F : ExcBaseFacts B newId initId bmB) (hT : ∀ X : String, bm.contains (.type X) = bmB.contains (.type X)) {rest : List Value} {kw : List (Str × Value)} {fI : Addr} {Q : Fin → Shared → Prop}
    (hC : h.get? C = some (excClassObj nm q C N bs bm hdct sn sub ab col dd k0 k1 k2 k3 k5 newId))
    (hi : W.Looks (model prog w) h (typeLookup (.ref C) "__init__") (some (.ref fI))) (hb : ∀ self, W.Looks (model prog w) h (bindSpecial (.ref fI) self) (.ref fI, [self])) (hz : rest.length ≤ sizeLine)
    (hq : codeAny (model prog w) A (.call (.ref fI) ⟨.ref (h.objs.size + 1) :: rest, kw⟩)
      (fun r s' => match r with | .ok (.ret v) => v = .none ∧ Q (.done (.ret (.ref (h.objs.size + 1)))) s' | .ok _ => False | .error e => E e s')
      ⟨laid2 C rest h, g, d, t, os⟩) :
    wpAny (model prog w) A (Builtin.«type.__call__» ⟨.ref C :: rest, kw⟩) Q E ⟨h, g, d, t, os⟩ := by
  repeat (first
    | with_reducible refine wpAny_loadPart_at hC ?_
    | with_reducible refine wpAny_madeBy_exc hC ?_
    | wp_step)
  refine codeAny_call_builtin_code (Code.quiet_builtin _ F.quiet) (chk_new F hT hC (run_new F hT hC ?_ hz))
  show wpAny _ _ _ _ _ _
  have kp : ∀ b o, h.get? b = some o → (laid2 C rest h).get? b = some o := fun b o e => Heap.get?_push_of_some _ (Heap.get?_push_of_some _ e)
  have hC1 := kp _ _ hC
  have hget : (laid2 C rest h).get? (h.objs.size + 1) = some (excO C h.objs.size) := by heap_get
  have yC : (Value.ref C :: bm).contains (.ref C) = true := by simp
  have i1 := hi.keeps kp
  have b1 := (hb (.ref (h.objs.size + 1))).keeps kp
  unfold isInstance
  repeat (first
    | with_reducible refine wpAny_loadPart_at hget ?_
    | (with_reducible refine wpAny_isSubtype_exc hC1 ?_; rw [yC])
    | wp_step)
  show wpAny _ _ (typeLookup (.ref C) _) _ _ _
  refine i1.at (wpAny_holding (wpAny_bind (b1.at (wpAny_bind (wpAny_call (codeAny_mono hq fun r s' z => ?_))))))
  rcases r with e | (v | _ | _ | _) <;> first | exact z | exact z.elim | skip
  obtain ⟨rfl, z⟩ := z
  first
    | exact wpAny_pure (wpAny_pure z)
    | (wp_walk; exact z)
theorem chk_typeCall {rest : List Value} {kw : List (Str × Value)} {Q : Unit → Shared → Prop} (hC : h.get? C = some (excClassObj nm q C N bs bm hdct sn sub ab col dd k0 k1 k2 k3 k5 newId))
    (hq : Q () ⟨h, g, d, t, os⟩) : wpAny M A (checkBuiltinCall "type.__call__" ⟨.ref C :: rest, kw⟩) Q E ⟨h, g, d, t, os⟩ := by
  have f3 := tc_sub
  have ty : (⟨h, g, d, t, os⟩ : Shared).TypeIs (.ref C) "type" := ⟨_, hC, rfl⟩
  simp only [checkBuiltinCall, tc_kind, tc_split]
  repeat (any_goals (first
    | assumption
    | with_reducible refine wpAny_loadPart_at hC ?_
    | with_reducible refine wpAny_onRaise ?_
    | with_reducible refine wpAny_map ?_
    | wp_step))
/-- C(.., k = v, ..) -/
theorem run_make (F : ExcBaseFacts B newId initId bmB) (hT : ∀ X : String, bm.contains (.type X) = bmB.contains (.type X)) {rest : List Value} {kw : List (Str × Value)} {fI : Addr}
    (hC : h.get? C = some (excClassObj nm q C N bs bm hdct sn sub ab col dd k0 k1 k2 k3 k5 newId))
    (hi : W.Looks (model prog w) h (typeLookup (.ref C) "__init__") (some (.ref fI))) (hb : ∀ self, W.Looks (model prog w) h (bindSpecial (.ref fI) self) (.ref fI, [self])) (hz : rest.length ≤ sizeLine)
    (hq : codeAny (model prog w) (A.under (.builtin "type.__call__" ⟨.ref C :: rest, kw⟩)) (.call (.ref fI) ⟨.ref (h.objs.size + 1) :: rest, kw⟩) (W.InitBack (h.objs.size + 1) R) ⟨laid2 C rest h, g, d, t, os⟩) :
    codeAny (model prog w) A (.call (.ref C) ⟨rest, kw⟩) R ⟨h, g, d, t, os⟩ := by
  have f1 := tc_lookup
  have f2 := tc_bind (.ref C)
  have ty : (⟨h, g, d, t, os⟩ : Shared).TypeIs (.ref C) "type" := ⟨_, hC, rfl⟩
  refine codeAny_of_tree ?_
  show wpAny _ _ (callAny (.ref C) _) _ _ _
  repeat (any_goals (first
    | assumption
    | with_reducible refine wpAny_loadPart_at hC ?_
    | wp_step))
  refine ⟨rfl, ?_⟩
  refine codeAny_call_builtin_at (Code.quiet_builtin _ (by decide +kernel)) entry_typeCall (chk_typeCall hC (run_typeCall F hT hC hi hb hz (codeAny_mono hq fun r s' z => ?_)))
  rcases r with e | (v | _ | _ | _) <;> exact z
end
end RLX
end PySem

set_option maxHeartbeats 2000000
/-! Own exceptions held as values: made (by position, by keyword), stored into, read, asked for their class. -/
namespace RL
open PySem L2 PySem.Spec PyProof.Rows Builtin Builtin.ObjectAttr
/-- what the class at C says: an own exception class, its __init__ a def -/
def xcB (K : PySem.W.Frag) (C : Addr) (bmB : List Value) (nid : String) : Bool :=
  PySem.W.excInitIn K C bmB nid && PySem.W.excOver K C bmB && PySem.W.hasDictIn K C && PySem.W.keepIn K (.ref C) && (PySem.W.clsIn K C).isSome &&
  decide (PySem.W.findIn K (.ref C) "__setattr__" = some (some (.builtin "object.__setattr__"))) &&
  decide (PySem.W.findIn K (.ref C) "__getattribute__" = some (some (.builtin "BaseException.__getattribute__"))) &&
  decide (PySem.W.findIn K (.ref C) "__getattr__" = some none) &&
  decide (PySem.W.findIn K (.ref C) "__class__" = some (some (.builtin "object.__class__"))) &&
  decide (PySem.W.subIn K (.ref C) (.type "BaseException") = some true) && decide (PySem.W.mroIn K C (.type "object") = some true) &&
  decide (PySem.W.findIn K (.ref C) "given" = some none) && decide (PySem.W.findIn K (.ref C) "index" = some none) && decide (PySem.W.findIn K (.ref C) "most" = some none)
structure XC (K : PySem.W.Frag) (C : Addr) : Prop where
  base : ∃ (B nid iid : String) (bmB : List Value), ExcBaseFacts B nid iid bmB ∧ StoreFacts B bmB "object.__setattr__" "object" ∧ PySem.W.excInitIn K C bmB nid = true ∧ PySem.W.excOver K C bmB = true
  hd : PySem.W.hasDictIn K C = true
  kp : PySem.W.keepIn K (.ref C) = true
  cl : (PySem.W.clsIn K C).isSome = true
  sa : PySem.W.findIn K (.ref C) "__setattr__" = some (some (.builtin "object.__setattr__"))
  ga : PySem.W.findIn K (.ref C) "__getattribute__" = some (some (.builtin "BaseException.__getattribute__"))
  gg : PySem.W.findIn K (.ref C) "__getattr__" = some none
  ca : PySem.W.findIn K (.ref C) "__class__" = some (some (.builtin "object.__class__"))
  sub : PySem.W.subIn K (.ref C) (.type "BaseException") = some true
  mo : PySem.W.mroIn K C (.type "object") = some true
  n1 : PySem.W.findIn K (.ref C) "given" = some none
  n2 : PySem.W.findIn K (.ref C) "index" = some none
  n3 : PySem.W.findIn K (.ref C) "most" = some none
theorem xcB_ok {K : PySem.W.Frag} {C : Addr} {bmB : List Value} {B nid iid : String} (F : ExcBaseFacts B nid iid bmB) (S : StoreFacts B bmB "object.__setattr__" "object") (h : xcB K C bmB nid = true) : XC K C := by
  unfold xcB at h
  simp only [Bool.and_eq_true, decide_eq_true_eq] at h
  obtain ⟨⟨⟨⟨⟨⟨⟨⟨⟨⟨⟨⟨⟨h1, h2⟩, h3⟩, h4⟩, h5⟩, h6⟩, h7⟩, h8⟩, h9⟩, h10⟩, h11⟩, h12⟩, h13⟩, h14⟩ := h
  exact ⟨⟨B, nid, iid, bmB, F, S, h1, h2⟩, h3, h4, h5, h6, h7, h8, h9, h10, h11, h12, h13, h14⟩
/-- the row that isinstance asks of object.__class__ -/
structure XK0 (K : PySem.W.Frag) : Prop where
  cn : PySem.W.specialIn K (.builtin "object.__class__") "__get__" = some (some (.builtin "getset_descriptor.__get__"))
  ct : PySem.W.takesIn K (.builtin "object.__class__") = some true
section
variable {prog : Program} {w : World} {A : Around} {R : Result → Shared → Prop} {hp : Heap} {g : Array GenState} {d : Drawn} {t : Nat} {os : OsState} {B : String} {bmB : List Value} {C : Addr}
theorem x_store {K : PySem.W.Frag} {name : Str} {tk : Tok} {v : Value} {x t1 : Addr} (SF : StoreFacts B bmB "object.__setattr__" "object") (X : K.In hp) (hx : hp.get? x = some (PySem.HandSPX.excO C t1))
    (ov : PySem.W.excOver K C bmB = true) (hh : PySem.W.hasDictIn K C = true) (ha : PySem.W.findIn K (.ref C) name = some none)
    (hq : ∀ h' tk' dx, (∀ b o, b ≠ x → hp.get? b = some o → h'.get? b = some o) → hp.objs.size ≤ dx → dx ≠ x → h'.get? x = some { PySem.HandSPX.excO C t1 with dict := some dx } →
      h'.Ns1 dx (fun y => if y = name then some v else none) → R (.ok (.ret .none)) ⟨h', g, d, tk', os⟩) :
    codeAny (model prog w) A (.call (.builtin "object.__setattr__") ⟨[.ref x, .str name tk, v], []⟩) R ⟨hp, g, d, t, os⟩ := by
  have tkr : PySem.W.takerIn K C name = some none := by
    unfold PySem.W.takerIn
    rw [ha]
    rfl
  obtain ⟨cd, hc, hd'⟩ := PySem.W.any_some hh
  have hxs : x ≠ hp.objs.size := Nat.ne_of_lt (Heap.lt_size hx)
  refine PySem.W.osa_openX (od := none) SF X ⟨hx, rfl, rfl, trivial⟩ ov tkr fun b => ?_
  refine wpAny_bind (wpAny_pure (wpAny_bind (PySem.W.instanceDict_exc (t := t1) (c2 := .none) hx (PySem.W.looks_clsIn X hc) hd' ?_)))
  show wpAny _ _ (storeInDict hp.objs.size (.str name tk) name v) _ _ _
  refine PySem.HandSPX.store_in_new ?_ ?_
  · exact ⟨_, #[], _, (Heap.get?_update_ne _ _ _ _ hxs.symm).trans (Heap.get?_push_at rfl rfl), rfl, fun e he => absurd he (by simp), fun _ => rfl⟩
  · intro h' tk' hn' hs
    have hx1 : (hp.push (PySem.W.dictOf [] 0)).get? x = some (PySem.HandSPX.excO C t1) := Heap.get?_push_of_some _ hx
    refine hq h' tk' hp.objs.size (fun b o hb ho => ?_) (Nat.le_refl _) hxs.symm ?_ hn'
    · exact (hs.2 b (Nat.ne_of_lt (Heap.lt_size ho))).trans ((Heap.get?_update_ne _ _ _ _ hb).trans (Heap.get?_push_of_some _ ho))
    · exact (hs.2 x hxs).trans (Heap.get?_update_self _ hx1 rfl)
end
section
variable {X : Cx} {pins : List (Addr × Obj)} {σ : L2.St} {H : Hp} {s : Shared} {a C dx : Addr} {f : Str} {y : V} {u : Value} {Q : Unit → Shared → Prop} {E : Value → Shared → Prop} {A : Around}
/-- self.f = y, the first one -/
theorem x_set (T : XC X.K C) (I : Inv X pins σ H s) (e : H a = some (exo a C none)) (hno : PySem.W.findIn X.K (.ref C) f = some none) (ry : RelV y u)
    (h : ∀ dx s', H dx = none → dx ≠ a → Inv X pins σ (upd (upd H dx (exd dx [(f, y)])) a (exo a C (some dx))) s' → Q () s') : wpAny (model X.prog X.w) A (setAttr (.ref a) f u) Q E s := by
  obtain ⟨B, nid, iid, bmB, FB, SF, _, ov⟩ := T.base
  obtain ⟨t1, ho⟩ := exo_at I.hok e
  obtain ⟨hp, g, d, t, os⟩ := s
  refine PySem.W.set_plain I.kIn (ox := PySem.HandSPX.excO C t1) (od := none) ⟨ho, rfl, rfl, trivial⟩ T.sa ?_
  refine x_store SF I.kIn ho ov T.hd hno (fun h' tk' dx k dn dne hx hn => ?_)
  have hnd : H dx = none := I.hok.fresh dn
  have nd : ∀ {b : Addr} {o : Obj}, hp.get? b = some o → b ≠ dx := fun {b o} q z => absurd (Heap.lt_size q) (by rw [z]; exact Nat.not_lt.mpr dn)
  have na : ∀ {b : Addr}, H b = none → b ≠ a := fun {b} n z => by
    rw [z, e] at n
    cases n
  have there : ∀ b o, hp.get? b = some o → ∃ o', h'.get? b = some o' := fun b o q => by
    by_cases hb : b = a
    · exact ⟨_, by rw [hb]; exact hx⟩
    · exact ⟨o, k b o hb q⟩
  refine h dx _ hnd dne (I.un (t' := tk') (Un.mk (fun b o q n _ _ => k b o (na n) q) (fun b o q n _ _ => ⟨o.slots, k b o (na n) q⟩) (fun b o q n _ => by rw [upd_ne (na n), upd_ne (nd q)]; exact n) (fun b o q _ => there b o q)
    (fun b xs q => by rw [upd_ne (at_ne e q exo_tup), upd_ne (ne_of_none q hnd)]; exact q) (fun b o v q => by rw [upd_ne (at_ne e q exo_frz), upd_ne (ne_of_none q hnd)]; exact q)
    (fun b ps q => ⟨#[], by rw [upd_ne (at_ne e q exo_tbl), upd_ne (ne_of_none q hnd), q]; simp⟩)) fun b o q => ?_)
  by_cases hb : b = a
  · rw [hb, upd_same] at q
    cases q
    rw [hb]
    exact exo_ok hx
  rw [upd_ne hb] at q
  by_cases hd : b = dx
  · rw [hd, upd_same] at q
    cases q
    rw [hd]
    exact exd_ok hn (relO_put (fs := []) ry fun g => True.intro)
  rw [upd_ne hd] at q
  refine (I.hok b o q).stay (fun c v hc z => k c v ?_ z) (fun c hc => ?_) (fun c xs hc => ?_)
  · rcases hc with hc | hc
    · rw [hc]
      exact hb
    · exact at_ne e hc exo_own
  · rw [upd_ne (at_ne e hc exo_own), upd_ne (ne_of_none hc hnd)]
    exact hc
  · rw [upd_ne (at_ne e hc exo_tup), upd_ne (ne_of_none hc hnd)]
    exact hc
end
/-- self.f = e -/
def tXst (K : PySem.W.Frag) (f : Str) (to te : TE) : TS := fun D σ H => te σ H fun y H1 => to σ H1 fun x H2 => ∃ a C : Addr, x = .ref a ∧ XC K C ∧ PySem.W.findIn K (.ref C) f = some none ∧ H2 a = some (exo a C none) ∧
  ∀ dx, H2 dx = none → dx ≠ a → D.nx σ (upd (upd H2 dx (exd dx [(f, y)])) a (exo a C (some dx)))
section
variable {X : Cx} {o e : Expr} {es : List Expr} {to te : TE} {ta tk : TA} {f : Str} {p p' p1 p2 pos : Pos}
theorem ps_xst (ho : PE X o to) (he : PE X e te) (hs : swapsWith e (some (.Attribute o f p')) pos.line X.env = pure false := by rfl) : PS X (.Assign [.Attribute o f p'] e pos) (tXst X.K f to te) := by
  refine ⟨fun pins s σ H D I h => plainObj_wpAny_Assign_Attribute (thn (he.run pins s σ H _ I h) fun v s1 ⟨y, H1, I1, r1, q1⟩ => thn (ho.run pins s1 σ H1 _ I1 q1) fun u s2 ⟨x, H2, I2, r2, a, C, ex, T, hno, ea, q⟩ => ?_) hs⟩
  subst ex
  cases (show u = Value.ref a from r2)
  exact x_set T I2 ea hno r1 fun dx s' n ne J => ⟨σ, _, J, q dx n ne⟩
/-- Base.m(e, ..), m a def of the class at C -/
theorem pe_xbase {C g : Addr} {mc : Value} {fd : FuncData} {ps : List Str} {sp : Sp} {k : Nat} {x m : Str} {pl : Sem Bool} (gC : X.mg x = some (.ref C)) (hg : Gl X x) (r : ClX.CRead X.K C mc) (hf : PySem.W.findCls X.K (.ref C) mc m = some (.val (.ref g)))
    (kp : PySem.W.keepIn X.K (.ref g) = true) (F : FnOk X.prog X.w X.K X.mg X.base CX0 k g fd ps sp) (hr : Room k X.A) (hb : Binds X.K fd ps []) (ha : PA X (e :: es) ta)
    (hc : eval (.Call (.Attribute (.Name x p1) m p2) (e :: es) [] pos) X.env = (do
      let ov ← eval (.Name x p1) X.env
      standAt p2.atName
      let (f, first) ← holding [ov] (getMethod ov m pl)
      callWith pos f first (backTo pos (starEach (e :: es) X.env)) (backToKw pos (keywordEach [] X.env))) := by rfl)
    (hdb : (x == ("__debug__" : Str)) = false := by decide) (he : starEach (e :: es) X.env = (false, eval e X.env) :: starEach es X.env := by rfl) (hpl : (backTo pos (starEach es X.env)).any (·.1) = false := by rfl) :
    PE X (.Call (.Attribute (.Name x p1) m p2) (e :: es) [] pos) (tCall sp [] E0 ta) := by
  refine ⟨fun pins s σ H Q I h => PySem.W.methodCall_KW (ld_glob I hg gC (PySem.W.method_cls I.kIn r.ga (ClX.getcval_ok (v := .ref g) I r ⟨hf, rfl⟩ fun s0 I0 => ?_)) hdb) hc⟩
  refine PySem.W.callWith_K (h₀ := X.base) I0.ok.mod.kin kp (thn (ha.run pos pins s0 σ H _ I0 h) fun us s1 ⟨vs, H1, I1, r1, q⟩ => ⟨I1.kIn, ?_⟩) he hpl
  exact run_fn F hr hb .nil pass0 I1 r1 q
/-- C(e, .., k = v, ..): a new exception without a dict, then __init__ -/
def tXmk (C : Addr) (n m : Nat) (sp : Sp) (gV : List V → List V → List V) (t tk : TA) : TE := fun σ H Q => t σ H fun vs H1 => tk σ H1 fun zs H2 => vs.length = n ∧ zs.length = m ∧
  ∀ a, H2 a = none → sp (gV (.ref a :: vs) zs) (upd H2 a (exo a C none)) (fun v H3 => v = .non ∧ Q (.ref a) H3) E0
/-- the class at C and its __init__ -/
structure XM (P : Program) (w : World) (K : PySem.W.Frag) (mg : Str → Option Value) (base : Heap) (k : Nat) (C : Addr) (ps : List Str) (sp : Sp) : Prop where
  xc : XC K C
  ex : ∃ (g : Addr) (fd : FuncData), PySem.W.findIn K (.ref C) "__init__" = some (some (.ref g)) ∧ PySem.W.isFn K (.ref g) = true ∧ FnOk P w K mg base CX0 k g fd ps sp ∧ Binds K fd ps [] ∧
    ∀ y z, ps = [y, z] → KBn K fd ps 1 [z] (fun us ws => us ++ ws) (fun vs zs => vs ++ zs)
theorem run_xmk {k n : Nat} {C g : Addr} {fd : FuncData} {ps ks : List Str} {sp : Sp} {gU : List Value → List Value → List Value} {gV : List V → List V → List V} {pins : List (Addr × Obj)} {σ : L2.St} {H : Hp} {s : Shared} {Q : VK} {us ws : List Value} {vs zs : List V}
    (T : XC X.K C) (iC : PySem.W.findIn X.K (.ref C) "__init__" = some (some (.ref g))) (tI : PySem.W.isFn X.K (.ref g) = true) (F : FnOk X.prog X.w X.K X.mg X.base CX0 k g fd ps sp) (hr : Room (k + 1) X.A) (hb : KBn X.K fd ps (n + 1) ks gU gV)
    (I : Inv X pins σ H s) (r : Vals vs us) (rz : Vals zs ws) (l1 : vs.length = n) (l2 : zs.length = ks.length) (ln : n ≤ 1000)
    (h : ∀ a, H a = none → sp (gV (.ref a :: vs) zs) (upd H a (exo a C none)) (fun v H2 => v = .non ∧ Q (.ref a) H2) E0) :
    wpAny (model X.prog X.w) X.A (call (.ref C) us (ks.zip ws)) (EP X pins σ Q) X.xe s := by
  obtain ⟨B, nid, iid, bmB, FB, SF, q, ov⟩ := T.base
  obtain ⟨nm, N', qn, bs, bm, hdct, sn, sub, ab, col, dd, k0, k1, k2, k3, k5, hC, hT⟩ := PySem.W.excInit_of I.kIn q
  have bf : ∀ self, PySem.W.Looks (model X.prog X.w) s.heap (bindSpecial (.ref g) self) (.ref g, [self]) := fun self => PySem.W.bind_fn I.kIn self (beq_iff_eq.mp tI)
  have li := PySem.W.looks_findIn (M := model X.prog X.w) I.kIn iC
  obtain ⟨hp, gs, dr, tk, os⟩ := s
  have hq := h (hp.objs.size + 1) (I.hok.fresh (Nat.le_succ _))
  have kk : ∀ b o, hp.get? b = some o → (PySem.RLX.laid2 C us hp).get? b = some o := fun b o e => Heap.get?_push_of_some _ (Heap.get?_push_of_some _ e)
  have hget : (PySem.RLX.laid2 C us hp).get? (hp.objs.size + 1) = some (PySem.HandSPX.excO C hp.objs.size) := by heap_get
  have I2 : Inv X pins σ (upd H (hp.objs.size + 1) (exo (hp.objs.size + 1) C none)) ⟨PySem.RLX.laid2 C us hp, gs, dr, tk, os⟩ :=
    I.laid (t' := tk) (a := hp.objs.size + 1) (o := exo (hp.objs.size + 1) C none) (h' := PySem.RLX.laid2 C us hp) kk (Nat.le_succ _) (exo_ok hget)
  have r1 : Vals (V.ref (hp.objs.size + 1) :: vs) (Value.ref (hp.objs.size + 1) :: us) := .cons rfl r
  have n1 : (Value.ref (hp.objs.size + 1) :: us).length = n + 1 := by rw [List.length_cons, ← r.length, l1]
  have hz : us.length ≤ sizeLine := by
    rw [← r.length, sizeLine_eq]
    omega
  refine wpAny_call (PySem.RLX.run_make FB hT hC li bf hz (codeAny_mono (F.run _ X.stack _ _ ⟨Value.ref (hp.objs.size + 1) :: us, ks.zip ws⟩ (gU (Value.ref (hp.objs.size + 1) :: us) ws) _ _ E0 (hr.make C us (ks.zip ws))
    (I2.env0.make C us (ks.zip ws)) (hb.to _ (Value.ref (hp.objs.size + 1) :: us) ws I2.kIn n1 (rz.length.symm.trans l2)) (hb.rel r1 rz) hq) fun r s' z => ?_))
  cases r with
  | error e => exact z.elim
  | ok fl =>
    cases fl with
    | ret u =>
      obtain ⟨v, H', I3, rv, ev, q3⟩ := I2.after z
      subst ev
      exact ⟨rv, ⟨V.ref (hp.objs.size + 1), H', I3, rfl, q3⟩⟩
    | next => exact z.elim
    | brk => exact z.elim
    | cont => exact z.elim
theorem kbn_of {K : PySem.W.Frag} {fd : FuncData} {ps : List Str} {n : Nat} (hb : Binds K fd ps []) (hl : ps.length = n) : KBn K fd ps n [] (fun us _ => us) (fun vs _ => vs) :=
  ⟨fun s us ws hK l1 l2 => by
    have e := hb s us hK (by rw [List.append_nil, l1, hl])
    rw [List.append_nil] at e
    exact e, fun r _ => r⟩
/-- C(k = v) -/
theorem pe_xmkK {C : Addr} {k : Nat} {x y z : Str} {sp : Sp} {kws : List Keyword} (M : XM X.prog X.w X.K X.mg X.base k C [y, z] sp) (hr : Room (k + 1) X.A) (hg : Gl X x) (hm : X.mg x = some (.ref C)) (hkw : PK X kws tk)
    (hall : (backToKw pos (keywordEach kws X.env)).all (·.1.isSome) = true := by rfl) (hks : (backToKw pos (keywordEach kws X.env)).filterMap (·.1) = [z] := by rfl) (hdb : (x == ("__debug__" : Str)) = false := by decide)
    (hpl : ((backTo pos (starEach [] X.env)).any (·.1) || (backToKw pos (keywordEach kws X.env)).any (·.1.isNone)) = false := by rfl) :
    PE X (.Call (.Name x p) [] kws pos) (tXmk C 0 1 sp (fun vs zs => vs ++ zs) tNil tk) := by
  obtain ⟨g, fd, iC, tI, F, _, hK⟩ := M.ex
  refine ⟨fun pins s σ H Q I h => wpAny_Call_Name_kw (ld_glob I hg hm (PySem.W.callWith_KW0 (h₀ := X.base) I.ok.mod.kin M.xc.kp hall ?_ hpl) hdb)⟩
  refine thn (hkw.run pos pins s σ H _ I h) fun ws s2 ⟨zs, H2, I2, rz, l1, l2, q2⟩ => ⟨I2.kIn, ?_⟩
  rw [hks]
  exact run_xmk (us := []) (vs := []) M.xc iC tI F hr (hK y z rfl) I2 .nil rz rfl l2 (by decide) q2
/-- C(e, ..) -/
theorem pe_xmk {C : Addr} {k : Nat} {x : Str} {sp : Sp} {ps : List Str} (M : XM X.prog X.w X.K X.mg X.base k C ps sp) (hr : Room (k + 1) X.A) (hg : Gl X x) (hm : X.mg x = some (.ref C)) (ha : PA X (e :: es) ta) (hn : ps.length = (e :: es).length + 1) (hn2 : (e :: es).length ≤ 1000)
    (hdb : (x == ("__debug__" : Str)) = false := by decide) (he : starEach (e :: es) X.env = (false, eval e X.env) :: starEach es X.env := by rfl) (hpl : (backTo pos (starEach es X.env)).any (·.1) = false := by rfl) :
    PE X (.Call (.Name x p) (e :: es) [] pos) (tXmk C (e :: es).length 0 sp (fun vs _ => vs) ta tNil) := by
  obtain ⟨g, fd, iC, tI, F, hb, _⟩ := M.ex
  refine ⟨fun pins s σ H Q I h => wpAny_Call_Name_kw (ld_glob I hg hm (PySem.W.callWith_K (h₀ := X.base) I.ok.mod.kin M.xc.kp (thn (ha.run pos pins s σ H _ I h) fun us s1 ⟨vs, H1, I1, r, l1, _, q⟩ => ⟨I1.kIn, ?_⟩) he hpl) hdb)⟩
  exact run_xmk (ks := []) (ws := []) (zs := []) M.xc iC tI F hr (kbn_of hb hn) I1 r .nil l1 rfl hn2 q
/-- C() -/
theorem pe_xmk0 {C : Addr} {k : Nat} {x : Str} {sp : Sp} {y : Str} (M : XM X.prog X.w X.K X.mg X.base k C [y] sp) (hr : Room (k + 1) X.A) (hg : Gl X x) (hm : X.mg x = some (.ref C))
    (hdb : (x == ("__debug__" : Str)) = false := by decide) :
    PE X (.Call (.Name x p) [] [] pos) (tXmk C 0 0 sp (fun vs _ => vs) tNil tNil) := by
  obtain ⟨g, fd, iC, tI, F, hb, _⟩ := M.ex
  refine ⟨fun pins s σ H Q I h => wpAny_Call_Name_kw (ld_glob I hg hm (PySem.W.callWith_K0 I.kIn M.xc.kp ?_) hdb)⟩
  obtain ⟨_, _, q⟩ := h
  exact run_xmk (us := []) (vs := []) (ks := []) (ws := []) (zs := []) M.xc iC tI F hr (kbn_of hb rfl) I .nil .nil rfl rfl (by decide) q
/-! ### asked and read -/
/-- an exception of the class at C -/
def Exo (H : Hp) (a C : Addr) : Prop := H a = some (exo a C none) ∨ ∃ (dx : Addr) (fs : List (Str × V)), H a = some (exo a C (some dx)) ∧ H dx = some (exd dx fs)
def rIsX (K : PySem.W.Frag) : List V → Hp → VK → Prop := fun xs H Q => ∃ (a C : Addr) (c : V) (u : Value) (b : Bool), xs = [.ref a, c] ∧ ClsV c u ∧ XC K C ∧ Exo H a C ∧ PySem.W.kitOne K (.ref C) u = some b ∧ Q (.bl b) H
theorem call_isX (Z : XK0 X.K) : CallR X (.builtin "isinstance") (rIsX X.K) := by
  intro pins s σ H xs us Q I r h
  obtain ⟨a, C, c, u, b, rfl, kc, T, hx, e, q⟩ := h
  obtain ⟨u1, u2, rfl, r1, r2⟩ := vals2 r
  have e2 := kc.eq r2
  subst e2
  cases (show u1 = Value.ref a from r1)
  have key : ∃ ox od, PySem.W.InstAt s.heap a ox C od := by
    rcases hx with hx | ⟨dx, fs, hx, hd⟩
    · obtain ⟨t1, ho⟩ := exo_at I.hok hx
      exact ⟨_, none, ho, rfl, rfl, trivial⟩
    · obtain ⟨t1, ho⟩ := exo_at I.hok hx
      obtain ⟨mA, ⟨od, es, ep, hod, _⟩, _⟩ := exd_at I.hok hd
      exact ⟨_, some od, ho, rfl, rfl, hod⟩
  obtain ⟨ox, od, J⟩ := key
  exact PySem.W.kia_one (PySem.W.kitx_exc (ox := ox) (od := od) T.cl T.ga T.gg T.sub T.ca Z.cn Z.ct T.mo) I.kIn J e (fun z => nomatch z) fun tk => ⟨.bl b, H, I.tok tk, rfl, q⟩
/-- e.f, e an exception with a dict -/
def tXfd (K : PySem.W.Frag) (f : Str) (te : TE) : TE := fun σ H Q => te σ H fun x H1 => ∃ (a C dx : Addr) (fs : List (Str × V)) (v : V), x = .ref a ∧ XC K C ∧ PySem.W.findIn K (.ref C) f = some none ∧ H1 a = some (exo a C (some dx)) ∧ H1 dx = some (exd dx fs) ∧ fs.lookup f = some v ∧ Q v H1
theorem pe_xfd {n : Str} (he : PE X e te) (hb : attributeBase e n X.env (eval e X.env) = eval e X.env := by rfl) : PE X (.Attribute e n pos) (tXfd X.K n te) := by
  refine ⟨fun pins s σ H Q I h => attr_of hb (thn (he.run pins s σ H _ I h) fun u s1 ⟨x, H1, I1, rx, a, C, dx, fs, v, ex, T, hno, ea, ed, l, q⟩ => ?_)⟩
  subst ex
  cases (show u = Value.ref a from rx)
  obtain ⟨t1, ho⟩ := exo_at I1.hok ea
  obtain ⟨mA, hns, hr⟩ := exd_at I1.hok ed
  obtain ⟨od, hod, hl⟩ := lookIn_ns hns
  obtain ⟨u, hu, ru⟩ := RelO.some_of (v := v) (o := mA n) (by rw [← l]; exact hr n)
  have J : PySem.W.InstAt s1.heap a _ C (some od) := ⟨ho, rfl, rfl, hod⟩
  exact HandSPX.exc_get I1.kIn J T.ga T.gg T.sub (PySem.W.findObj_own T.hd hno rfl (by rw [hl, hu])) (handed_of ru) ⟨v, H1, I1.tok _, ru, q⟩
end
end RL

set_option maxHeartbeats 1000000
/-! repr of plain things: None, bools, ints, texts, lists, tuples, flat dicts. -/
namespace RL
open PySem L2 PySem.Spec PyProof.Rows
def keyD : Key → PyData
  | .inl i => .int i
  | .inr x => .str x
/-- v is, by the heap, the data d: as Dp, or a dict of ints -/
inductive Dq (K : PySem.W.Frag) (H : Hp) : V → PyData → Prop
  | dp {v : V} {d : PyData} : Dp K H v d → d.hasDict = false → Dq K H v d
  | dk {a : Addr} {kvs : List (Key × Int)} : H a = some (.dK (kvs.map fun p => (p.1, V.int p.2))) → Dq K H (.ref a) (.dict (kvs.map fun p => (keyD p.1, .int p.2)))
theorem dk_reads {P : Program} {w : World} {h : Heap} : ∀ {kvs : List (Key × Int)} {vs : List (Key × Value)} {es : List DictEntry}, KV (kvs.map fun p => (p.1, V.int p.2)) vs → Pairs (mixKind P w) es vs →
    ReadsAll h (es.map (·.key)) ((kvs.map fun p => (keyD p.1, PyData.int p.2)).map (·.1)) [] ∧ ReadsAll h (es.map (·.val)) ((kvs.map fun p => (keyD p.1, PyData.int p.2)).map (·.2)) []
  | [], _, _, r, q => by
    cases r
    cases q
    exact ⟨.nil, .nil⟩
  | (k, i) :: kvs, _, _, r, q => by
    cases r with
    | cons r1 r2 =>
      cases q with
      | cons q1 q2 q3 =>
        obtain ⟨e1, e2⟩ := r1
        obtain ⟨h1, h2⟩ := dk_reads (P := P) (w := w) (h := h) r2 q3
        refine ⟨?_, ?_⟩
        · have q1' := q1
          rw [mixKind_is, ← e1] at q1'
          rcases keyIs_shape q1' with ⟨j, t, ek, ev⟩ | ⟨x, t, ek, ev⟩
          · have ek : k = _ := ek
            subst ek
            rw [List.map_cons, ev]
            exact ReadsAll.cons (Reads.int _ _) h1
          · have ek : k = _ := ek
            subst ek
            rw [List.map_cons, ev]
            exact ReadsAll.cons (Reads.str _ _) h1
        · obtain ⟨t, e2⟩ := e2
          rw [List.map_cons, q2, e2]
          exact ReadsAll.cons (Reads.int _ _) h2
section
variable {X : Cx}
def rRp (K : PySem.W.Frag) : List V → Hp → VK → Prop := fun vs H Q => ∃ (v : V) (d : PyData), vs = [v] ∧ Dq K H v d ∧ d.showable = true ∧ d.depth ≤ 40 ∧ d.shown.length ≤ sizeLine ∧ Q (.str d.shown) H
theorem cr_rp (hG : X.A.guards = some []) (hu : X.A.units + 64 < cLine) : CallR X (.builtin "repr") (rRp X.K) := by
  intro pins s σ H vs us Q I r h
  obtain ⟨v, d, rfl, hd, h1, h3, h4, q⟩ := h
  obtain ⟨u, rfl, ru⟩ : ∃ u, us = [u] ∧ RelV v u := by
    cases r with
    | cons r1 r2 =>
      cases r2
      exact ⟨_, rfl, r1⟩
  cases hd with
  | dp hp h2 =>
    cases hp with
    | non =>
      cases (show u = Value.none from ru)
      exact PySem.P.repr_of_none ⟨.str "None", H, I.tok _, ⟨_, rfl⟩, q⟩
    | bl b =>
      cases (show u = Value.bool b from ru)
      exact PySem.P.repr_of_bool ⟨.str (PyData.bool b).shown, H, I.tok _, ⟨_, rfl⟩, q⟩
    | int i =>
      obtain ⟨t, rfl⟩ := ru
      exact PySem.P.repr_of_int (of_decide_eq_true h1) ⟨.str (PyData.int i).shown, H, I.tok _, ⟨_, rfl⟩, q⟩
    | str x =>
      obtain ⟨t, rfl⟩ := ru
      exact PySem.P.repr_of_str ⟨.str (PyData.str x).shown, H, I.tok _, ⟨_, rfl⟩, q⟩ h4
    | @lst a xs ds hs ha =>
      exact cr_repr hG hu pins s σ H _ _ Q I (.cons ru .nil) ⟨a, _, rfl, .lst hs ha, h1, h2, h3, h4, q⟩
    | @tup a xs ds hs ha =>
      exact cr_repr hG hu pins s σ H _ _ Q I (.cons ru .nil) ⟨a, _, rfl, .tup hs ha, h1, h2, h3, h4, q⟩
  | @dk a kvs ha =>
    cases (show u = Value.ref a from ru)
    obtain ⟨_, hsys, vs, kv, o, es, ep, ho, hc, hdat, _, hp, _⟩ := (show ObjOk X.prog X.w H s.heap a (.dK _) from I.hok a _ ha)
    obtain ⟨g1, g2⟩ := dk_reads (h := s.heap) kv hp
    refine repr_of_reads' (h₀ := s.heap) (Reads.dict ho hc.1 hdat g1 g2) h1 (fun _ hm => ?_) hG (by omega) (fun _ _ z => z) (fun h' u tk hk => ⟨.str _, H, I.kept hk, ⟨_, rfl⟩, q⟩) h4
    have hm' : sysModules ∈ [a] := hm
    rw [List.mem_singleton] at hm'
    rw [← hm'] at hsys
    exact absurd hsys (by decide)
end
theorem sqT_same {K : PySem.W.Frag} {H H' : Hp} {a : Addr} {xs : List V} (e : ∀ b o, H b = some o → H' b = some o) (h : SqT K H a xs) : SqT K H' a xs := by
  rcases h with (h | ⟨o, h⟩) | h
  · exact .inl (.inl (e _ _ h))
  · exact .inl (.inr ⟨o, e _ _ h⟩)
  · exact .inr h
mutual
theorem dp_same {K : PySem.W.Frag} {H H' : Hp} (s : ∀ b o, H b = some o → H' b = some o) : ∀ (d : PyData) (v : V), Dp K H v d → Dp K H' v d
  | .none, _, h => by
    cases h
    exact .non
  | .bool b, _, h => by
    cases h
    exact .bl b
  | .int i, _, h => by
    cases h
    exact .int i
  | .str x, _, h => by
    cases h
    exact .str x
  | .list ds, _, h => by
    cases h with
    | lst a b => exact .lst (Same.seq s a) (dpAll_same s ds _ b)
  | .tuple ds, _, h => by
    cases h with
    | tup a b => exact .tup (sqT_same s a) (dpAll_same s ds _ b)
  | .dict _, _, h => by cases h
theorem dpAll_same {K : PySem.W.Frag} {H H' : Hp} (s : ∀ b o, H b = some o → H' b = some o) : ∀ (ds : List PyData) (vs : List V), DpAll K H vs ds → DpAll K H' vs ds
  | [], _, h => by
    cases h
    exact .nil
  | d :: ds, _, h => by
    cases h with
    | cons a b => exact .cons (dp_same s d _ a) (dpAll_same s ds _ b)
end
theorem Dq.same {K : PySem.W.Frag} {H H' : Hp} {v : V} {d : PyData} (h : Dq K H v d) (s : Same H H') : Dq K H' v d := by
  cases h with
  | dp a b => exact .dp (dp_same s _ _ a) b
  | dk a => exact .dk (s _ _ a)
end RL

set_option maxHeartbeats 1000000
/-! Pairs of exceptions, made by position and by name. -/
namespace RL
open PySem L2
/-- __init__(self, f): the base's __init__, then self.f = f -/
def spI (K : PySem.W.Frag) (f : Str) : Sp := fun vs H Q _ => ∃ (a C : Addr) (y : V), vs = [.ref a, y] ∧ XC K C ∧ PySem.W.findIn K (.ref C) f = some none ∧ H a = some (exo a C none) ∧
  ∀ dx, H dx = none → dx ≠ a → Q .non (upd (upd H dx (exd dx [(f, y)])) a (exo a C (some dx)))
def spN : Sp := fun vs H Q _ => ∃ v : V, vs = [v] ∧ Q .non H
/-- at a: an exception of the class at C whose f is y -/
def Xv (H : Hp) (a C : Addr) (f : Str) (y : V) : Prop := ∃ dx : Addr, H a = some (exo a C (some dx)) ∧ H dx = some (exd dx [(f, y)])
theorem Xv.same {H H' : Hp} {a C : Addr} {f : Str} {y : V} (h : Xv H a C f y) (s : Same H H') : Xv H' a C f y := by
  obtain ⟨dx, h1, h2⟩ := h
  exact ⟨dx, s _ _ h1, s _ _ h2⟩
/-- v: a list of two such exceptions -/
def Pr (H : Hp) (v : V) (C : Addr) (f : Str) (y : V) : Prop := ∃ l a b : Addr, v = .ref l ∧ H l = some (.lst [.ref a, .ref b]) ∧ Xv H a C f y ∧ Xv H b C f y
theorem Pr.same {H H' : Hp} {v : V} {C : Addr} {f : Str} {y : V} (h : Pr H v C f y) (s : Same H H') : Pr H' v C f y := by
  obtain ⟨l, a, b, e, h1, h2, h3⟩ := h
  exact ⟨l, a, b, e, s _ _ h1, h2.same s, h3.same s⟩
theorem new_upd {H : Hp} {p : Addr} {o : HO} (h : H p = none) : Same H (upd H p o) := fun b x e => by
  rw [upd_ne (ne_of_none e h)]
  exact e
theorem xv_new {H : Hp} {a dx C : Addr} {f : Str} {y : V} (na : H a = none) (nd : H dx = none) (ne : dx ≠ a) : Same H (upd (upd (upd H a (exo a C none)) dx (exd dx [(f, y)])) a (exo a C (some dx))) ∧ Xv (upd (upd (upd H a (exo a C none)) dx (exd dx [(f, y)])) a (exo a C (some dx))) a C f y := by
  refine ⟨fun b o e => ?_, dx, upd_same, ?_⟩
  · rw [upd_ne (ne_of_none e na), upd_ne (ne_of_none e nd), upd_ne (ne_of_none e na)]
    exact e
  · rw [upd_ne ne, upd_same]
def tPair (C : Addr) (f : Str) (i : Nat) : TE := fun σ H Q => ∃ y, σ[i]? = some (some y) ∧ ∀ v H', Same H H' → Pr H' v C f y → (∀ l, v = .ref l → H l = none) → Q v H'
section
variable {X : Cx} {e1 e2 : Expr} {x : Str} {p1 p2 p3 p4 p5 pos : Pos} {nm : Option Str} {kpos : Pos} {i : Nat}
theorem xmk_one {K : PySem.W.Frag} {a C : Addr} {f : Str} {y : V} {H : Hp} {R : Hp → Prop} (T : XC K C) (hno : PySem.W.findIn K (.ref C) f = some none) (na : H a = none) (h : ∀ H', Same H H' → Xv H' a C f y → R H') :
    spI K f [.ref a, y] (upd H a (exo a C none)) (fun v H3 => v = .non ∧ R H3) E0 := by
  refine ⟨a, C, y, rfl, T, hno, upd_same, fun dx nd ne => ⟨rfl, ?_⟩⟩
  rw [upd_ne ne] at nd
  obtain ⟨s1, x1⟩ := xv_new (C := C) (f := f) (y := y) na nd ne
  exact h _ s1 x1
theorem pe_pair {C : Addr} {k : Nat} {f : Str} (M : XM X.prog X.w X.K X.mg X.base k C ["self", f] (spI X.K f)) (hno : PySem.W.findIn X.K (.ref C) f = some none) (hr : Room (k + 1) X.A) (hg : Gl X x) (hm : X.mg x = some (.ref C))
    (h1 : PE X e1 (tVar i)) (h2 : PE X e2 (tVar i)) (hs : starEach [.Call (.Name x p1) [e1] [] p2, .Call (.Name x p3) [] [⟨nm, e2, kpos⟩] p4] X.env = (false, eval (.Call (.Name x p1) [e1] [] p2) X.env) :: starEach [.Call (.Name x p3) [] [⟨nm, e2, kpos⟩] p4] X.env := by rfl)
    (hs2 : starEach [.Call (.Name x p3) [] [⟨nm, e2, kpos⟩] p4] X.env = (false, eval (.Call (.Name x p3) [] [⟨nm, e2, kpos⟩] p4) X.env) :: starEach [] X.env := by rfl) (hs1 : starEach [e1] X.env = (false, eval e1 X.env) :: starEach [] X.env := by rfl) (hdb : (x == ("__debug__" : Str)) = false := by decide)
    (hks : (backToKw p4 (keywordEach [⟨nm, e2, kpos⟩] X.env)).filterMap (·.1) = [f] := by rfl) (hall : (backToKw p4 (keywordEach [⟨nm, e2, kpos⟩] X.env)).all (·.1.isSome) = true := by rfl) (hpl : ((backTo p4 (starEach [] X.env)).any (·.1) || (backToKw p4 (keywordEach [⟨nm, e2, kpos⟩] X.env)).any (·.1.isNone)) = false := by rfl) :
    PE X (.List [.Call (.Name x p1) [e1] [] p2, .Call (.Name x p3) [] [⟨nm, e2, kpos⟩] p4] pos) (tPair C f i) := by
  have hp := pe_lst (pos := pos) (pa_cons (pe_xmk (p := p1) (pos := p2) M hr hg hm (pa_cons h1 pa_nil hs1) rfl (Nat.succ_le_of_lt (by decide : 0 < 1000)) hdb hs1 rfl) (pa_cons (pe_xmkK (p := p3) (pos := p4) M hr hg hm (pk_cons (nm := nm) (kpos := kpos) h2 pk_nil) hall hks hdb hpl) pa_nil hs2) hs)
  refine ⟨fun pins s σ H Q I h => hp.run pins s σ H Q I ?_⟩
  obtain ⟨y, ey, q⟩ := h
  refine ⟨y, ey, rfl, rfl, fun a na => xmk_one M.xc hno na fun H1 s1 x1 => ?_⟩
  refine ⟨y, ey, rfl, rfl, fun b nb => xmk_one M.xc hno nb fun H2 s2 x2 => ?_⟩
  refine ⟨(by show 2 ≤ sizeLine; decide), fun l nl => ?_⟩
  have s3 := new_upd (o := .lst [.ref a, .ref b]) nl
  exact q _ _ ((s1.trans s2).trans s3) ⟨l, a, b, rfl, upd_same, (x1.same s2).same s3, x2.same s3⟩ (fun l' e => by cases e; exact (s1.trans s2).free nl)
/-- C() -/
def tMk0 (C : Addr) : TE := fun _ H Q => ∀ a, H a = none → Q (.ref a) (upd H a (exo a C none))
theorem pe_mk0 {C : Addr} {k : Nat} {y : Str} (M : XM X.prog X.w X.K X.mg X.base k C [y] spN) (hr : Room (k + 1) X.A) (hg : Gl X x) (hm : X.mg x = some (.ref C)) (hdb : (x == ("__debug__" : Str)) = false := by decide) : PE X (.Call (.Name x p1) [] [] p2) (tMk0 C) := by
  have hp := pe_xmk0 (p := p1) (pos := p2) M hr hg hm hdb
  exact ⟨fun pins s σ H Q I h => hp.run pins s σ H Q I ⟨rfl, rfl, fun a na => ⟨.ref a, rfl, rfl, h a na⟩⟩⟩
end
section
variable {X : Cx} {K : PySem.W.Frag} {e : Expr} {te : TE} {pos : Pos} {n : Str}
theorem pe_xfdK (he : PE X e te) (hK : X.K = K := by rfl) (hb : attributeBase e n X.env (eval e X.env) = eval e X.env := by rfl) : PE X (.Attribute e n pos) (tXfd K n te) := by
  subst hK
  exact pe_xfd he hb
theorem cr_rpK (hG : X.A.guards = some []) (hu : X.A.units + 64 < cLine) (hK : X.K = K := by rfl) : CallR X (.builtin "repr") (rRp K) := by
  subst hK
  exact cr_rp hG hu
end
/-- for i, x in enumerate(l) -/
theorem for_enum {K : PySem.W.Frag} {a : Addr} {xs : List V} {g : TG} {tb : TS} {D : Ends} {σ : L2.St} {H : Hp} (Pv : Nat → L2.St → Hp → Prop) (h0 : Pv 0 σ H) (hl : ∀ i σ H, i ≤ xs.length → Pv i σ H → SqL K H a xs)
    (hs : ∀ i x σ H T, xs[i]? = some x → Pv i σ H → H T = none → g (.ref T) σ (upd H T (.tup [.int (i : Nat), x])) fun σ2 H2 => tb { D with nx := Pv (i + 1), ct := Pv (i + 1), bk := D.nx } σ2 H2) (hd : ∀ σ H, Pv xs.length σ H → D.nx σ H) :
    ∃ W : Nat → Nat → L2.St → Hp → Prop, (∃ m, W 0 m σ H) ∧ ∀ i m σ H, W i m σ H →
      ((Ite K a).stop i H ∧ D.nx σ H) ∨ ((Ite K a).go i H ∧ ∃ N : L2.St → Hp → Prop, (∀ σ' H', N σ' H' → ∃ m', m' < m ∧ W (i + 1) m' σ' H') ∧ ∀ x H', (Ite K a).yld i H x H' → g x σ H' fun σ2 H2 => tb { D with nx := N, ct := N, bk := D.nx } σ2 H2) := by
  refine ⟨fun i m σ H => m = xs.length - i ∧ i ≤ xs.length ∧ Pv i σ H, ⟨xs.length, by simp, Nat.zero_le _, h0⟩, ?_⟩
  rintro i m σ H ⟨rfl, hi, p⟩
  have q := hl i σ H hi p
  by_cases hlt : i < xs.length
  · refine .inr ⟨⟨xs, xs[i], q, by simp [hlt]⟩, Pv (i + 1), fun σ' H' p' => ⟨xs.length - (i + 1), by omega, rfl, hlt, p'⟩, fun x H' y => ?_⟩
    obtain ⟨T, z, rfl, nT, rfl, ez⟩ := y
    exact hs i z σ H T (ez xs q) p nT
  · have e : i = xs.length := by omega
    rw [e] at p ⊢
    exact .inl ⟨⟨xs, q, Nat.le_refl _⟩, hd σ H p⟩
end RL

namespace RL
open PySem L2
def top (i : Nat) : Stmt := PySem.Challenge.pw_rungladders_k01_constants_and_errors.main.body.getD i (.Pass ⟨0, 0, 0, 0⟩)
/-! ### a def as its callers see it -/
structure Df (P : Program) (w : World) (K : PySem.W.Frag) (mg : Str → Option Value) (base : Heap) (k : Nat) (x : Str) (ps : List Str) (sp : Sp) : Prop where
  ex : ∃ (f : Addr) (fd : FuncData), FnOk P w K mg base CX0 k f fd ps sp ∧ mg x = some (.ref f) ∧ PySem.W.keepIn K (.ref f) = true ∧ Binds K fd ps []
section
variable {X : Cx} {k : Nat} {ps : List Str} {sp : Sp} {x : Str} {p pos : Pos} {e : Expr} {es : List Expr} {t : TA}
theorem pe_df (D : Df X.prog X.w X.K X.mg X.base k x ps sp) (hr : Room k X.A) (hg : Gl X x)
    (ha : PA X (e :: es) t) (hdb : (x == ("__debug__" : Str)) = false := by decide) (he : starEach (e :: es) X.env = (false, eval e X.env) :: starEach es X.env := by rfl) (hpl : (backTo pos (starEach es X.env)).any (·.1) = false := by rfl) :
    PE X (.Call (.Name x p) (e :: es) [] pos) (tCall sp [] E0 t) := by
  obtain ⟨f, fd, G, hm, hk, hb⟩ := D.ex
  exact pe_call G hr hg hm hk hb .nil pass0 ha hdb he hpl
end
structure Txt (K : PySem.W.Frag) (mg : Str → Option Value) : Prop where
  len : mg "len" = none
  abs : mg "abs" = none
  int_ : mg "int" = none
  isinstance : mg "isinstance" = none
  divmod : mg "divmod" = none
  max : mg "max" = none
  min : mg "min" = none
  range : mg "range" = none
  all : mg "all" = none
  repr : mg "repr" = none
  enumerate : mg "enumerate" = none
  ValueError : mg "ValueError" = none
  LookupError : mg "LookupError" = none
  ArithmeticError : mg "ArithmeticError" = none
/-! ### heaps -/
def But (c : Addr) (H H' : Hp) : Prop := ∀ b o, b ≠ c → H b = some o → H' b = some o
theorem But.refl (c : Addr) (H : Hp) : But c H H := fun _ _ _ h => h
theorem But.trans {c : Addr} {H H1 H2 : Hp} (a : But c H H1) (b : But c H1 H2) : But c H H2 := fun x o n h => b x o n (a x o n h)
theorem But.of {c : Addr} {H H' : Hp} (h : Same H H') : But c H H' := fun x o _ e => h x o e
theorem same_upd {H : Hp} {p : Addr} {o : HO} (h : H p = none) : Same H (upd H p o) := fun b x e => by
  rw [upd_ne (ne_of_none e h)]
  exact e
theorem But.upd {c : Addr} {H : Hp} {o : HO} : But c H (upd H c o) := fun b x n e => by
  rw [upd_ne n]
  exact e
theorem But.free {c : Addr} {H H' : Hp} (e : But c H H') {l : Addr} (n : l ≠ c) (h : H' l = none) : H l = none := by
  cases q : H l with
  | none => rfl
  | some o =>
    rw [e l o n q] at h
    cases h
def CupAt (c : Addr) (H : Hp) : Prop := ∃ x y : Int, H c = some (.lst [.int x, .int y]) ∧ 0 ≤ x ∧ x < 2147483629 ∧ 0 ≤ y
theorem CupAt.same {c : Addr} {H H' : Hp} (h : CupAt c H) (s : Same H H') : CupAt c H' := by
  obtain ⟨x, y, a, b⟩ := h
  exact ⟨x, y, s _ _ a, b⟩
theorem CupAt.ne {c b : Addr} {H : Hp} (h : CupAt c H) (n : H b = none) : c ≠ b := by
  obtain ⟨x, y, a, _⟩ := h
  exact ne_of_none a n
/-! ### promises -/
def spCup (K : PySem.W.Frag) : Sp := fun vs H Q _ => ∃ (a : Addr) (ns : List Int) (i : Nat), vs = [.ref a, .int (i : Int)] ∧ SqL K H a (ns.map V.int) ∧ i ≤ 100 ∧ ns.length ≤ 63 ∧
  ∀ H' c, Same H H' → H c = none → CupAt c H' → Q (.ref c) H'
def spSip : Sp := fun vs H Q _ => ∃ (c : Addr) (m : Int), vs = [.ref c, .int m] ∧ CupAt c H ∧ 0 < m ∧ Sm 200 m ∧
  ∀ H' r, But c H H' → CupAt c H' → 0 ≤ r → r < m → Q (.int r) H'
def spPick : Sp := fun vs H Q _ => ∃ (c l : Addr) (xs : List V), vs = [.ref c, .ref l] ∧ CupAt c H ∧ c ≠ l ∧ H l = some (.lst xs) ∧ 0 < xs.length ∧ xs.length ≤ 100 ∧
  ∀ H' v, But c H H' → CupAt c H' → v ∈ xs → Q v H'
section
variable {P : Program} {w : World} {K : PySem.W.Frag} {mg : Str → Option Value} {base : Heap}
abbrev s_law_sip : Stmt := top 33
theorem sc_law_sip : FnScope ["_law_cup_here", "_law_many", "_law_part"] ["_law_cup_here", "_law_many"] (defScope s_law_sip) := ⟨rfl, rfl, rfl, by decide +kernel, rfl, by decide +kernel, by decide +kernel⟩

theorem ok_sip {f : Addr} {fd : FuncData} (F : Fun K "_law_sip" "_law_sip" s_law_sip f fd) (T : Txt K mg) : FnOk P w K mg base CX0 1 f fd ["_law_cup_here", "_law_many"] spSip := by
  refine F.ok sc_law_sip (fun vs H Q E h => ?_) (fun cdv A outer s H vs Q E hr h => ?_)
  · obtain ⟨c, m, rfl, _⟩ := h
    rfl
  · obtain ⟨c, m, rfl, ⟨x, y, hc, x0, x1, y0⟩, m0, ms, k⟩ := h
    refine ⟨_, (pss_cons (ps_asg (pe_op op_mod (pe_callTy call_int1 (by rfl) T.int_ (by decide +kernel) (pa_cons (pe_op op_add (pe_op op_mul (pe_ix ix_list (pv 0) pe_int (fun _ _ => rfl)) pe_int) pe_int) pa_nil)) pe_int) (pg_sub (pv 0) pe_int set_list))
      (pss_cons (ps_if (pt_cmpR op_gt (pe_ix ix_list (pv 0) pe_int (fun _ _ => rfl)) pe_int (nomark _)) (pss_cons (ps_asg (pe_callB call_divmodW (by rfl) T.divmod (by decide +kernel) (pa_cons (pe_ix ix_list (pv 0) pe_int (fun _ _ => rfl)) (pa_cons (pv 1) pa_nil))) (pg_tup rfl (pgs_cons (pg_sub (pv 0) pe_int set_list) (pgs_cons (pg_name (i := 2) sc_law_sip.nd rfl (.inl rfl)) pgs_nil))))
      (pss_one (ps_ret (pv 2)))) pss_nil)
      (pss_one (ps_ret (pe_op op_mod (pe_callTy call_int1 (by rfl) T.int_ (by decide +kernel) (pa_cons (pe_op op_fdivW (pe_ix ix_list (pv 0) pe_int (fun _ _ => rfl)) pe_int) pa_nil)) (pv 1)))))), ?_⟩
    -- cup[0] = ..
    refine ⟨_, rfl, c, _, _, _, rfl, rfl, SqL.of hc, atI_nat (j := 0) rfl, _, _, rfl, rfl, .inr ⟨by decide, by decide⟩, _, _, rfl, rfl, .inl ⟨_, rfl, _, _, rfl, rfl, (by decide : (0 : Int) < 2147483629), _, rfl, c, _, _, _, rfl, rfl, hc, rfl, ?_⟩⟩
    have z0 : 0 ≤ (x * 48271 + 11) % 2147483629 := Int.emod_nonneg _ (by decide)
    have z1 : (x * 48271 + 11) % 2147483629 < 2147483629 := Int.emod_lt_of_pos _ (by decide)
    have hc1 : (upd H c (HO.lst ([V.int x, V.int y].set 0 (V.int ((x * 48271 + 11) % 2147483629))))) c = some (.lst [.int ((x * 48271 + 11) % 2147483629), .int y]) := upd_same
    have b1 : But c H (upd H c (HO.lst ([V.int x, V.int y].set 0 (V.int ((x * 48271 + 11) % 2147483629))))) := But.upd
    -- if cup[1] > 0
    refine ⟨_, rfl, c, _, _, _, rfl, rfl, SqL.of hc1, atI_nat (j := 1) rfl, _, _, rfl, rfl, _, rfl, ite2 (fun e => ?_) (fun e => ?_)⟩
    · have e0 : 0 < y := of_decide_eq_true e
      refine ⟨_, rfl, c, _, _, _, rfl, rfl, SqL.of hc1, atI_nat (j := 1) rfl, _, rfl, _, _, rfl, ⟨m0, PyProof.noPylong_of_log2 (PySem.Flt.log2_lt_of (by decide) (Nat.lt_of_lt_of_le ms (Nat.pow_le_pow_right (by decide) (by decide : 200 ≤ 9000))))⟩, fun p hp => ?_⟩
      have ncp : c ≠ p := ne_of_none hc1 hp
      have hc2 : (upd (upd H c (HO.lst ([V.int x, V.int y].set 0 (V.int ((x * 48271 + 11) % 2147483629))))) p (HO.tup [V.int (y / m), V.int (y % m)])) c = some (.lst [.int ((x * 48271 + 11) % 2147483629), .int y]) := by
        rw [upd_ne ncp]
        exact hc1
      refine ⟨p, _, rfl, SqT.of upd_same, rfl, _, _, rfl, _, rfl, c, _, _, _, rfl, rfl, hc2, rfl, _, _, rfl, rfl, _, rfl, ?_⟩
      refine k _ _ ?_ ⟨_, y / m, upd_same, z0, z1, Int.ediv_nonneg y0 (by omega)⟩ (Int.emod_nonneg _ (by omega)) (Int.emod_lt_of_pos _ m0)
      exact (b1.trans (But.of (same_upd hp))).trans But.upd
    · refine ⟨_, rfl, c, _, _, _, rfl, rfl, SqL.of hc1, atI_nat (j := 0) rfl, _, _, rfl, rfl, ⟨by decide, by decide⟩, .inl ⟨_, rfl, _, rfl, _, _, rfl, rfl, m0, ?_⟩⟩
      exact k _ _ b1 ⟨_, y, hc1, z0, z1, y0⟩ (Int.emod_nonneg _ (by omega)) (Int.emod_lt_of_pos _ m0)
abbrev s_law_pick : Stmt := top 34
theorem sc_law_pick : FnScope ["_law_cup_here", "_law_things"] ["_law_cup_here", "_law_things"] (defScope s_law_pick) := ⟨rfl, rfl, rfl, by decide +kernel, rfl, by decide +kernel, by decide +kernel⟩

theorem ok_pick {f : Addr} {fd : FuncData} (F : Fun K "_law_pick" "_law_pick" s_law_pick f fd) (T : Txt K mg) (D_law_sip : Df P w K mg base 1 "_law_sip" ["_law_cup_here", "_law_many"] spSip) : FnOk P w K mg base CX0 2 f fd ["_law_cup_here", "_law_things"] spPick := by
  refine F.ok sc_law_pick (fun vs H Q E h => ?_) (fun cdv A outer s H vs Q E hr h => ?_)
  · obtain ⟨c, l, xs, rfl, _⟩ := h
    rfl
  · obtain ⟨c, l, xs, rfl, hc, ncl, hl, l0, l1, k⟩ := h
    refine ⟨_, (pss_one (ps_ret (pe_ix ix_list (pv 1) (pe_df D_law_sip (hr.mono (by decide)) (by rfl) (pa_cons (pv 0) (pa_cons (pe_callB call_len_seq (by rfl) T.len (by decide +kernel) (pa_cons (pv 1) pa_nil)) pa_nil))) (fun _ _ => rfl)))), ?_⟩
    refine ⟨_, rfl, _, rfl, _, rfl, l, _, rfl, .inl (SqL.of hl), c, _, rfl, hc, (by omega), ?_, fun H' r b hc' r0 r1 => ?_⟩
    · unfold Sm
      have : (2 : Nat) ^ 7 ≤ 2 ^ 200 := Nat.pow_le_pow_right (by decide) (by decide)
      have : (2 : Nat) ^ 7 = 128 := by decide
      omega
    · obtain ⟨n, rfl⟩ := Int.eq_ofNat_of_zero_le r0
      have hn : n < xs.length := by omega
      refine ⟨l, xs, _, _, rfl, rfl, SqL.of (b _ _ ncl.symm hl), atI_nat (List.getElem?_eq_getElem hn), ?_⟩
      exact k _ _ b hc' (List.getElem_mem hn)
theorem cut2 (xs : List V) : cutV xs none (some 2) = xs.take 2 := by
  unfold cutV
  rw [HT.sIx_none, show HT.sIx xs.length xs.length (some 2) = min 2 xs.length from HT.sIx_nat xs.length xs.length 2]
  rw [Nat.sub_zero, List.drop_zero]
  rcases Nat.le_total 2 xs.length with h | h
  · rw [Nat.min_eq_left h]
  · rw [Nat.min_eq_right h, List.take_length, List.take_of_length_le h]
abbrev s_law_cup : Stmt := top 32
theorem sc_law_cup : FnScope ["_law_script", "_law_spot", "_law_cell", "_law_one"] ["_law_script", "_law_spot"] (defScope s_law_cup) := ⟨rfl, rfl, rfl, by decide +kernel, rfl, by decide +kernel, by decide +kernel⟩

theorem ok_cup {f : Addr} {fd : FuncData} (F : Fun K "_law_cup" "_law_cup" s_law_cup f fd) (T : Txt K mg) : FnOk P w K mg base CX0 1 f fd ["_law_script", "_law_spot"] (spCup K) := by
  refine F.ok sc_law_cup (fun vs H Q E h => ?_) (fun cdv A outer s H vs Q E hr h => ?_)
  · obtain ⟨a, ns, i, rfl, _⟩ := h
    rfl
  · obtain ⟨a, ns, i, rfl, hS, hi, hn, k⟩ := h
    refine ⟨_, (pss_cons (ps_set (i := 2) sc_law_cup.nd rfl (.inl rfl) (pe_ifExp (pt_cmpR op_lt (pv 1) (pe_callB call_len_seq (by rfl) T.len (by decide +kernel) (pa_cons (pv 0) pa_nil)) (nomark _)) (pe_ix ix_list (pv 0) (pv 1) (fun _ _ => rfl)) (pe_op op_add (pe_op op_mul pe_int (pv 1)) pe_int)))
      (pss_cons (ps_for PassesOwn.never rfl (pi_list (pe_ifExp (pt_cmpR op_ge (pv 1) (pe_callB call_len_seq (by rfl) T.len (by decide +kernel) (pa_cons (pv 0) pa_nil)) (nomark _)) (pe_slice sl_list (pv 0) po_none (po_some pe_int)) (pe_lst pa_nil))) (pg_name (i := 3) sc_law_cup.nd rfl (.inl rfl)) (pss_one (ps_set (i := 2) sc_law_cup.nd rfl (.inl rfl) (pe_op op_mod (pe_callTy call_int1 (by rfl) T.int_ (by decide +kernel) (pa_cons (pe_op op_add (pe_op op_mul (pv 2) pe_int) (pv 3)) pa_nil)) pe_int))))
      (pss_one (ps_ret (pe_lst (pa_cons (pe_op op_mod (pe_callTy call_int1 (by rfl) T.int_ (by decide +kernel) (pa_cons (pe_op op_add (pe_op op_add (pe_op op_mul (pv 2) pe_int) (pe_op op_mul pe_int (pv 1))) pe_int) pa_nil)) pe_int) (pa_cons (pe_ifExp (PW.pt (pw_or (pt_cmpR op_lt (pv 2) pe_int (nomark _)) (pw_or1 (pt_cmpR op_ge (pv 2) (pe_op op_pow pe_int pe_int) (nomark _))))) (pe_callB call_abs (by rfl) T.abs (by decide +kernel) (pa_cons (pv 2) pa_nil)) pe_int) pa_nil))))))), ?_⟩
    have hlen : (ns.map V.int).length = ns.length := List.length_map ..
    have isI : ∀ (xs : List Int) (j : Nat) (y : V), (xs.map V.int)[j]? = some y → ∃ u, y = V.int u := fun xs j y hj => by
      rw [List.getElem?_map] at hj
      cases q : xs[j]? with
      | none =>
        rw [q] at hj
        cases hj
      | some u =>
        rw [q] at hj
        exact ⟨u, (Option.some.inj hj).symm⟩
    refine ⟨_, rfl, _, rfl, a, _, rfl, .inl hS, _, _, rfl, rfl, _, rfl, ite2 (fun e => ?_) (fun e => ?_)⟩
    · have e0 : (i : Int) < (ns.map V.int).length := of_decide_eq_true e
      have hin : i < ns.length := by omega
      refine ⟨_, rfl, _, rfl, a, _, _, _, rfl, rfl, hS, atI_nat (v := V.int ns[i]) (by rw [List.getElem?_map, List.getElem?_eq_getElem hin]; rfl), ?_⟩
      refine ⟨_, rfl, _, rfl, a, _, rfl, .inl hS, _, _, rfl, rfl, _, rfl, ite2 (fun e2 => absurd (of_decide_eq_true e2) (by omega)) (fun e2 => ?_)⟩
      refine ⟨Nat.zero_le _, fun l hl0 => ?_⟩
      have sm : Same H (upd H l (.lst [])) := same_upd hl0
      have hl : SqL K (upd H l (.lst [])) l (([] : List Int).map V.int) := SqL.of upd_same
      refine ⟨l, rfl, ⟨_, hl⟩, for_list (K := K) (a := l) (xs := ([] : List Int).map V.int) (fun j σ H' => ∃ (c2 : Int) (v3 : Option V), σ = [some (.ref a), some (.int i), some (.int c2), v3] ∧ H' = upd H l (.lst [])) ⟨ns[i], none, rfl, rfl⟩ (fun _ _ _ _ h => by obtain ⟨_, _, _, rfl⟩ := h; exact hl) ?_ ?_⟩
      · rintro j y σ H' hj ⟨c2, v3, rfl, rfl⟩
        obtain ⟨u, rfl⟩ := isI _ _ _ hj
        refine ⟨_, rfl, _, _, rfl, rfl, .inr ⟨by decide, by decide⟩, _, rfl, _, _, rfl, rfl, .inl ⟨_, rfl, _, _, rfl, rfl, (by decide : (0 : Int) < 1000000007), ?_⟩⟩
        exact ⟨_, _, rfl, rfl⟩
      · rintro σ H' ⟨c2, v3, rfl, rfl⟩
        refine ⟨_, rfl, _, _, rfl, rfl, .inr ⟨by decide, by decide⟩, _, rfl, _, _, rfl, rfl, .inl ⟨by decide, by decide⟩, _, _, rfl, rfl, _, _, rfl, rfl, .inl ⟨_, rfl, _, _, rfl, rfl, (by decide : (0 : Int) < 2147483629), ?_⟩⟩
        have z0 : 0 ≤ (c2 * 4099 + 271 * (i : Int) + 17) % 2147483629 := Int.emod_nonneg _ (by decide)
        have z1 : (c2 * 4099 + 271 * (i : Int) + 17) % 2147483629 < 2147483629 := Int.emod_lt_of_pos _ (by decide)
        refine ⟨_, rfl, _, _, rfl, rfl, _, rfl, ite2 (fun e3 => ?_) (fun e3 => ?_)⟩
        · refine iteT ⟨_, rfl, _, rfl, (by show 2 ≤ sizeLine; decide), fun p hp => ?_⟩
          refine k _ p (sm.trans (same_upd hp)) (sm.free hp) ⟨_, _, upd_same, z0, z1, ?_⟩
          split <;> omega
        · refine ⟨_, rfl, _, _, rfl, rfl, ⟨by decide, by decide, by decide⟩, _, _, rfl, rfl, _, rfl, ite2 (fun e4 => ?_) (fun e4 => ?_)⟩
          · refine ⟨_, rfl, _, rfl, (by show 2 ≤ sizeLine; decide), fun p hp => ?_⟩
            refine k _ p (sm.trans (same_upd hp)) (sm.free hp) ⟨_, _, upd_same, z0, z1, ?_⟩
            split <;> omega
          · refine ⟨(by show 2 ≤ sizeLine; decide), fun p hp => ?_⟩
            exact k _ p (sm.trans (same_upd hp)) (sm.free hp) ⟨_, _, upd_same, z0, z1, by decide⟩
    · have e0 : ¬ (i : Int) < (ns.map V.int).length := fun z => e (decide_eq_true z)
      refine ⟨_, rfl, _, _, rfl, rfl, .inl ⟨by decide, by decide⟩, _, _, rfl, rfl, ?_⟩
      refine ⟨_, rfl, _, rfl, a, _, rfl, .inl hS, _, _, rfl, rfl, _, rfl, ite2 (fun e2 => ?_) (fun e2 => absurd (decide_eq_true (show ((ns.map V.int).length : Int) ≤ (i : Int) by omega)) e2)⟩
      refine ⟨_, rfl, 2, rfl, a, _, rfl, hS, fun l hl0 => ?_⟩
      have sm := same_upd (o := .lst (cutV (ns.map V.int) none (some 2))) hl0
      have hl : SqL K (upd H l (.lst (cutV (ns.map V.int) none (some 2)))) l ((ns.take 2).map V.int) := by
        refine SqL.of ?_
        rw [upd_same, cut2, List.map_take]
      refine ⟨l, rfl, ⟨_, hl⟩, for_list (K := K) (a := l) (xs := (ns.take 2).map V.int) (fun j σ H' => ∃ (c2 : Int) (v3 : Option V), σ = [some (.ref a), some (.int i), some (.int c2), v3] ∧ H' = upd H l (.lst (cutV (ns.map V.int) none (some 2)))) ⟨_, none, rfl, rfl⟩ (fun _ _ _ _ h => by obtain ⟨_, _, _, rfl⟩ := h; exact hl) ?_ ?_⟩
      · rintro j y σ H' hj ⟨c2, v3, rfl, rfl⟩
        obtain ⟨u, rfl⟩ := isI _ _ _ hj
        refine ⟨_, rfl, _, _, rfl, rfl, .inr ⟨by decide, by decide⟩, _, rfl, _, _, rfl, rfl, .inl ⟨_, rfl, _, _, rfl, rfl, (by decide : (0 : Int) < 1000000007), ?_⟩⟩
        exact ⟨_, _, rfl, rfl⟩
      · rintro σ H' ⟨c2, v3, rfl, rfl⟩
        refine ⟨_, rfl, _, _, rfl, rfl, .inr ⟨by decide, by decide⟩, _, rfl, _, _, rfl, rfl, .inl ⟨by decide, by decide⟩, _, _, rfl, rfl, _, _, rfl, rfl, .inl ⟨_, rfl, _, _, rfl, rfl, (by decide : (0 : Int) < 2147483629), ?_⟩⟩
        have z0 : 0 ≤ (c2 * 4099 + 271 * (i : Int) + 17) % 2147483629 := Int.emod_nonneg _ (by decide)
        have z1 : (c2 * 4099 + 271 * (i : Int) + 17) % 2147483629 < 2147483629 := Int.emod_lt_of_pos _ (by decide)
        refine ⟨_, rfl, _, _, rfl, rfl, _, rfl, ite2 (fun e3 => ?_) (fun e3 => ?_)⟩
        · refine iteT ⟨_, rfl, _, rfl, (by show 2 ≤ sizeLine; decide), fun p hp => ?_⟩
          refine k _ p (sm.trans (same_upd hp)) (sm.free hp) ⟨_, _, upd_same, z0, z1, ?_⟩
          split <;> omega
        · refine ⟨_, rfl, _, _, rfl, rfl, ⟨by decide, by decide, by decide⟩, _, _, rfl, rfl, _, rfl, ite2 (fun e4 => ?_) (fun e4 => ?_)⟩
          · refine ⟨_, rfl, _, rfl, (by show 2 ≤ sizeLine; decide), fun p hp => ?_⟩
            refine k _ p (sm.trans (same_upd hp)) (sm.free hp) ⟨_, _, upd_same, z0, z1, ?_⟩
            split <;> omega
          · refine ⟨(by show 2 ≤ sizeLine; decide), fun p hp => ?_⟩
            exact k _ p (sm.trans (same_upd hp)) (sm.free hp) ⟨_, _, upd_same, z0, z1, by decide⟩
end
end RL

set_option maxHeartbeats 1000000
namespace RL
open PySem L2
/-- the names of the law: classes c, constants -/
structure Tx (K : PySem.W.Frag) (mg : Str → Option Value) (c : Nat → Addr) (aO : Addr) (tk : Nat → Tok) : Prop extends Txt K mg where
  m0 : mg "NotAPattern" = some (.ref (c 0))
  m1 : mg "NotARun" = some (.ref (c 1))
  m2 : mg "InvalidResistance" = some (.ref (c 2))
  m3 : mg "InvalidCount" = some (.ref (c 3))
  m4 : mg "InvalidNumber" = some (.ref (c 4))
  m5 : mg "InvalidText" = some (.ref (c 5))
  m6 : mg "InvalidName" = some (.ref (c 6))
  m7 : mg "InvalidClaim" = some (.ref (c 7))
  m8 : mg "InvalidIndex" = some (.ref (c 8))
  m9 : mg "InvalidPieces" = some (.ref (c 9))
  m10 : mg "InvalidKinds" = some (.ref (c 10))
  m11 : mg "InvalidStretches" = some (.ref (c 11))
  m12 : mg "InvalidDeeds" = some (.ref (c 12))
  m13 : mg "UnknownName" = some (.ref (c 13))
  m14 : mg "InUse" = some (.ref (c 14))
  m15 : mg "TooMany" = some (.ref (c 15))
  m16 : mg "Broken" = some (.ref (c 16))
  m17 : mg "NoLimit" = some (.ref (c 17))
  m18 : mg "NothingToUndo" = some (.ref (c 18))
  m19 : mg "WrongValue" = some (.ref (c 19))
  m20 : mg "WrongName" = some (.ref (c 20))
  m21 : mg "NoAnswer" = some (.ref (c 21))
  k0 : mg "MOST_OHMS" = some (.int 12 (tk 0))
  k1 : mg "MOST_PIECES" = some (.int 4 (tk 1))
  k2 : mg "MOST_JOINED" = some (.int 8 (tk 2))
  k3 : mg "MOST_KINDS" = some (.int 4 (tk 3))
  k4 : mg "MOST_SECTIONS" = some (.int 100 (tk 4))
  k5 : mg "LAST" = some (.int 1000 (tk 5))
  k6 : mg "GREATEST" = some (.int 1000000000000 (tk 6))
  kO : mg "OPEN" = some (.ref aO)
  sO : ∀ H : Hp, SqT K H aO [.int 1, .int 0]
/-- the making of each class -/
structure Ms (P : Program) (w : World) (K : PySem.W.Frag) (mg : Str → Option Value) (base : Heap) (c : Nat → Addr) : Prop where
  m0 : XM P w K mg base 2 (c 0) ["self", "given"] (spI K "given")
  m1 : XM P w K mg base 2 (c 1) ["self", "given"] (spI K "given")
  m2 : XM P w K mg base 2 (c 2) ["self", "given"] (spI K "given")
  m3 : XM P w K mg base 2 (c 3) ["self", "given"] (spI K "given")
  m4 : XM P w K mg base 2 (c 4) ["self", "given"] (spI K "given")
  m5 : XM P w K mg base 2 (c 5) ["self", "given"] (spI K "given")
  m6 : XM P w K mg base 2 (c 6) ["self", "given"] (spI K "given")
  m7 : XM P w K mg base 2 (c 7) ["self", "given"] (spI K "given")
  m8 : XM P w K mg base 2 (c 8) ["self", "given"] (spI K "given")
  m9 : XM P w K mg base 2 (c 9) ["self", "index"] (spI K "index")
  m10 : XM P w K mg base 2 (c 10) ["self", "index"] (spI K "index")
  m11 : XM P w K mg base 2 (c 11) ["self", "index"] (spI K "index")
  m12 : XM P w K mg base 2 (c 12) ["self", "index"] (spI K "index")
  m13 : XM P w K mg base 2 (c 13) ["self", "given"] (spI K "given")
  m14 : XM P w K mg base 2 (c 14) ["self", "index"] (spI K "index")
  m15 : XM P w K mg base 2 (c 15) ["self", "most"] (spI K "most")
  m16 : XM P w K mg base 2 (c 16) ["self", "index"] (spI K "index")
  m17 : XM P w K mg base 1 (c 17) ["self"] spN
  m18 : XM P w K mg base 1 (c 18) ["self"] spN
  m19 : XM P w K mg base 1 (c 19) ["self"] spN
  m20 : XM P w K mg base 1 (c 20) ["self"] spN
  m21 : XM P w K mg base 1 (c 21) ["self"] spN
/-- the classes that are asked, in the order of the asking -/
def tv (c : Nat → Addr) (j : Nat) : Value := if j < 22 then .ref (c j) else if j = 22 then .type "ValueError" else if j = 23 then .type "LookupError" else .type "ArithmeticError"
def IsRow (K : PySem.W.Frag) (c : Nat → Addr) (C : Addr) (b : Nat → Bool) : Prop := ∀ j, j < 25 → PySem.W.kitOne K (.ref C) (tv c j) = some (b j)
def fnd (b : Nat → Bool) (k n : Nat) : List V := (List.range n).map fun j => V.bl (b (k + j))
def ans (b : Nat → Bool) : List V := ((List.range 19).filter b).map (fun j => V.int (j : Nat)) ++ ((List.range 6).filter fun j => b (19 + j)).map (fun j => V.int (20 + (j : Nat)))
def spClasses (K : PySem.W.Frag) (c : Nat → Addr) : Sp := fun vs H Q _ => ∃ (a C : Addr) (b : Nat → Bool), vs = [.ref a] ∧ XC K C ∧ Exo H a C ∧ IsRow K c C b ∧
  ∀ H' l, Same H H' → H l = none → H' l = some (.lst (ans b)) → Q (.ref l) H'
theorem fnd_at {b : Nat → Bool} {k n i : Nat} (h : i < n) : (fnd b k n)[i]? = some (.bl (b (k + i))) := by
  unfold fnd
  rw [List.getElem?_map, List.getElem?_range h]
  rfl
theorem rng_len {α : Type} {b : Nat → Bool} {f : Nat → α} {i : Nat} (h : i < 19) : (((List.range i).filter b).map f).length ≤ 1000 := by
  have h1 := List.length_filter_le b (List.range i)
  rw [List.length_range] at h1
  rw [List.length_map]
  omega
theorem rng_yes {α : Type} {b : Nat → Bool} {f : Nat → α} {i : Nat} (h : b i = true) : ((List.range (i + 1)).filter b).map f = ((List.range i).filter b).map f ++ [f i] := by
  rw [List.range_succ, List.filter_append, List.map_append]
  simp [h]
theorem rng_no {α : Type} {b : Nat → Bool} {f : Nat → α} {i : Nat} (h : ¬ b i = true) : ((List.range (i + 1)).filter b).map f = ((List.range i).filter b).map f := by
  rw [List.range_succ, List.filter_append, List.map_append]
  simp [h]
theorem Exo.same {H H' : Hp} {a C : Addr} (h : Exo H a C) (s : Same H H') : Exo H' a C := by
  rcases h with h | ⟨dx, fs, h1, h2⟩
  · exact .inl (s _ _ h)
  · exact .inr ⟨dx, fs, s _ _ h1, s _ _ h2⟩
section
variable {P : Program} {w : World} {K : PySem.W.Frag} {mg : Str → Option Value} {base : Heap} {c : Nat → Addr} {aO : Addr} {tk : Nat → Tok}
abbrev s_law_classes : Stmt := top 35
theorem sc_law_classes : FnScope ["_law_e", "_law_found", "_law_above", "_law_at"] ["_law_e"] (defScope s_law_classes) := ⟨rfl, rfl, rfl, by decide +kernel, rfl, by decide +kernel, by decide +kernel⟩

theorem ok_classes {f : Addr} {fd : FuncData} (F : Fun K "_law_classes" "_law_classes" s_law_classes f fd) (T : Tx K mg c aO tk) (Z : XK0 K) : FnOk P w K mg base CX0 1 f fd ["_law_e"] (spClasses K c) := by
  refine F.ok sc_law_classes (fun vs H Q E h => ?_) (fun cdv A outer s H vs Q E hr h => ?_)
  · obtain ⟨a, C, b, rfl, _⟩ := h
    rfl
  · obtain ⟨a, C, b, rfl, xc, ex, row, k⟩ := h
    refine ⟨_, (C8.pss_cut (ps_set (i := 1) sc_law_classes.nd rfl (.inr rfl) (pe_lst (pa_cons (pe_callB (call_isX Z) (by rfl) T.isinstance (by decide +kernel) (pa_cons (pv 0) (pa_cons (pe_glob (v := .ref (c 0)) rfl T.m0 rfl) pa_nil))) (pa_cons (pe_callB (call_isX Z) (by rfl) T.isinstance (by decide +kernel) (pa_cons (pv 0) (pa_cons (pe_glob (v := .ref (c 1)) rfl T.m1 rfl) pa_nil))) pa_nil))))
      (C8.pss_cut (ps_set (i := 1) sc_law_classes.nd rfl (.inr rfl) (pe_op op_cat (pv 1) (pe_lst (pa_cons (pe_callB (call_isX Z) (by rfl) T.isinstance (by decide +kernel) (pa_cons (pv 0) (pa_cons (pe_glob (v := .ref (c 2)) rfl T.m2 rfl) pa_nil))) (pa_cons (pe_callB (call_isX Z) (by rfl) T.isinstance (by decide +kernel) (pa_cons (pv 0) (pa_cons (pe_glob (v := .ref (c 3)) rfl T.m3 rfl) pa_nil))) pa_nil)))))
      (C8.pss_cut (ps_set (i := 1) sc_law_classes.nd rfl (.inr rfl) (pe_op op_cat (pv 1) (pe_lst (pa_cons (pe_callB (call_isX Z) (by rfl) T.isinstance (by decide +kernel) (pa_cons (pv 0) (pa_cons (pe_glob (v := .ref (c 4)) rfl T.m4 rfl) pa_nil))) (pa_cons (pe_callB (call_isX Z) (by rfl) T.isinstance (by decide +kernel) (pa_cons (pv 0) (pa_cons (pe_glob (v := .ref (c 5)) rfl T.m5 rfl) pa_nil))) (pa_cons (pe_callB (call_isX Z) (by rfl) T.isinstance (by decide +kernel) (pa_cons (pv 0) (pa_cons (pe_glob (v := .ref (c 6)) rfl T.m6 rfl) pa_nil))) pa_nil))))))
      (C8.pss_cut (ps_set (i := 1) sc_law_classes.nd rfl (.inr rfl) (pe_op op_cat (pv 1) (pe_lst (pa_cons (pe_callB (call_isX Z) (by rfl) T.isinstance (by decide +kernel) (pa_cons (pv 0) (pa_cons (pe_glob (v := .ref (c 7)) rfl T.m7 rfl) pa_nil))) (pa_cons (pe_callB (call_isX Z) (by rfl) T.isinstance (by decide +kernel) (pa_cons (pv 0) (pa_cons (pe_glob (v := .ref (c 8)) rfl T.m8 rfl) pa_nil))) pa_nil)))))
      (C8.pss_cut (ps_set (i := 1) sc_law_classes.nd rfl (.inr rfl) (pe_op op_cat (pv 1) (pe_lst (pa_cons (pe_callB (call_isX Z) (by rfl) T.isinstance (by decide +kernel) (pa_cons (pv 0) (pa_cons (pe_glob (v := .ref (c 9)) rfl T.m9 rfl) pa_nil))) (pa_cons (pe_callB (call_isX Z) (by rfl) T.isinstance (by decide +kernel) (pa_cons (pv 0) (pa_cons (pe_glob (v := .ref (c 10)) rfl T.m10 rfl) pa_nil))) (pa_cons (pe_callB (call_isX Z) (by rfl) T.isinstance (by decide +kernel) (pa_cons (pv 0) (pa_cons (pe_glob (v := .ref (c 11)) rfl T.m11 rfl) pa_nil))) pa_nil))))))
      (C8.pss_cut (ps_set (i := 1) sc_law_classes.nd rfl (.inr rfl) (pe_op op_cat (pv 1) (pe_lst (pa_cons (pe_callB (call_isX Z) (by rfl) T.isinstance (by decide +kernel) (pa_cons (pv 0) (pa_cons (pe_glob (v := .ref (c 12)) rfl T.m12 rfl) pa_nil))) (pa_cons (pe_callB (call_isX Z) (by rfl) T.isinstance (by decide +kernel) (pa_cons (pv 0) (pa_cons (pe_glob (v := .ref (c 13)) rfl T.m13 rfl) pa_nil))) (pa_cons (pe_callB (call_isX Z) (by rfl) T.isinstance (by decide +kernel) (pa_cons (pv 0) (pa_cons (pe_glob (v := .ref (c 14)) rfl T.m14 rfl) pa_nil))) pa_nil))))))
      (C8.pss_cut (ps_set (i := 1) sc_law_classes.nd rfl (.inr rfl) (pe_op op_cat (pv 1) (pe_lst (pa_cons (pe_callB (call_isX Z) (by rfl) T.isinstance (by decide +kernel) (pa_cons (pv 0) (pa_cons (pe_glob (v := .ref (c 15)) rfl T.m15 rfl) pa_nil))) (pa_cons (pe_callB (call_isX Z) (by rfl) T.isinstance (by decide +kernel) (pa_cons (pv 0) (pa_cons (pe_glob (v := .ref (c 16)) rfl T.m16 rfl) pa_nil))) pa_nil)))))
      (C8.pss_cut (ps_set (i := 1) sc_law_classes.nd rfl (.inr rfl) (pe_op op_cat (pv 1) (pe_lst (pa_cons (pe_callB (call_isX Z) (by rfl) T.isinstance (by decide +kernel) (pa_cons (pv 0) (pa_cons (pe_glob (v := .ref (c 17)) rfl T.m17 rfl) pa_nil))) (pa_cons (pe_callB (call_isX Z) (by rfl) T.isinstance (by decide +kernel) (pa_cons (pv 0) (pa_cons (pe_glob (v := .ref (c 18)) rfl T.m18 rfl) pa_nil))) pa_nil)))))
      (C8.pss_cut (ps_set (i := 2) sc_law_classes.nd rfl (.inr rfl) (pe_lst (pa_cons (pe_callB (call_isX Z) (by rfl) T.isinstance (by decide +kernel) (pa_cons (pv 0) (pa_cons (pe_glob (v := .ref (c 19)) rfl T.m19 rfl) pa_nil))) (pa_cons (pe_callB (call_isX Z) (by rfl) T.isinstance (by decide +kernel) (pa_cons (pv 0) (pa_cons (pe_glob (v := .ref (c 20)) rfl T.m20 rfl) pa_nil))) (pa_cons (pe_callB (call_isX Z) (by rfl) T.isinstance (by decide +kernel) (pa_cons (pv 0) (pa_cons (pe_glob (v := .ref (c 21)) rfl T.m21 rfl) pa_nil))) pa_nil)))))
      (C8.pss_cut (ps_set (i := 2) sc_law_classes.nd rfl (.inr rfl) (pe_op op_cat (pv 2) (pe_lst (pa_cons (pe_callB (call_isX Z) (by rfl) T.isinstance (by decide +kernel) (pa_cons (pv 0) (pa_cons (pe_bltn (v := .ty "ValueError") (by rfl) T.ValueError (by decide +kernel) rfl) pa_nil))) (pa_cons (pe_callB (call_isX Z) (by rfl) T.isinstance (by decide +kernel) (pa_cons (pv 0) (pa_cons (pe_bltn (v := .ty "LookupError") (by rfl) T.LookupError (by decide +kernel) rfl) pa_nil))) (pa_cons (pe_callB (call_isX Z) (by rfl) T.isinstance (by decide +kernel) (pa_cons (pv 0) (pa_cons (pe_bltn (v := .ty "ArithmeticError") (by rfl) T.ArithmeticError (by decide +kernel) rfl) pa_nil))) pa_nil))))))
      (pss_one (ps_ret (pe_op op_cat (pe_lc (own := [("_law_at", 3)]) (g := gName 3) rfl sc_law_classes.nd (pi_range1 rfl T.range (pa_cons pe_int pa_nil)) (blkOk_by (N := ["_law_e", "_law_found", "_law_above", "_law_at"]) (sc := defScope s_law_classes) (by decide +kernel)) (fun _ _ _ _ _ => pg_name (i := 3) sc_law_classes.nd rfl (Or.inl rfl)) (fun _ _ _ _ _ => (pts_one (pt_val (pe_ix (r := rIxL K) ix_list (pv 1) (pv 3) (fun _ _ => rfl))))) (fun _ _ _ _ _ => (pv 3))) (pe_lc (own := [("_law_at", 3)]) (g := gName 3) rfl sc_law_classes.nd (pi_range1 rfl T.range (pa_cons pe_int pa_nil)) (blkOk_by (N := ["_law_e", "_law_found", "_law_above", "_law_at"]) (sc := defScope s_law_classes) (by decide +kernel)) (fun _ _ _ _ _ => pg_name (i := 3) sc_law_classes.nd rfl (Or.inl rfl)) (fun _ _ _ _ _ => (pts_one (pt_val (pe_ix (r := rIxL K) ix_list (pv 2) (pv 3) (fun _ _ => rfl))))) (fun _ _ _ _ _ => (pe_op op_add pe_int (pv 3))))))))))))))))), ?_⟩
    have r := fun j (hj : j < 25) => row j hj
    refine ⟨fun σ' H' => ∃ q, σ' = [some (.ref a), some (.ref q), none, none] ∧ Same H H' ∧ H' q = some (.lst (fnd b 0 2)), ?_, ?_⟩
    · refine ⟨_, rfl, a, C, _, _, _, rfl, .own _, xc, ex, r 0 (by decide), _, rfl, a, C, _, _, _, rfl, .own _, xc, ex, r 1 (by decide), (by show 2 ≤ sizeLine; decide), fun q o => ?_⟩
      exact ⟨q, rfl, new_upd o, upd_same⟩
    rintro σ1 H1 ⟨q, rfl, s1, l1⟩
    have e1 := ex.same s1
    refine ⟨fun σ' H' => ∃ q, σ' = [some (.ref a), some (.ref q), none, none] ∧ Same H H' ∧ H' q = some (.lst (fnd b 0 4)), ?_, ?_⟩
    · refine ⟨_, rfl, _, rfl, a, C, _, _, _, rfl, .own _, xc, e1, r 2 (by decide), _, rfl, a, C, _, _, _, rfl, .own _, xc, e1, r 3 (by decide), (by show 2 ≤ sizeLine; decide), fun p np => ⟨q, p, _, _, rfl, rfl, new_upd np _ _ l1, upd_same, (by show 4 ≤ sizeLine; decide), fun z nz => ?_⟩⟩
      exact ⟨z, rfl, (s1.trans (new_upd np)).trans (new_upd nz), upd_same⟩
    clear s1 l1 e1
    rintro σ1 H1 ⟨q, rfl, s1, l1⟩
    have e1 := ex.same s1
    refine ⟨fun σ' H' => ∃ q, σ' = [some (.ref a), some (.ref q), none, none] ∧ Same H H' ∧ H' q = some (.lst (fnd b 0 7)), ?_, ?_⟩
    · refine ⟨_, rfl, _, rfl, a, C, _, _, _, rfl, .own _, xc, e1, r 4 (by decide), _, rfl, a, C, _, _, _, rfl, .own _, xc, e1, r 5 (by decide), _, rfl, a, C, _, _, _, rfl, .own _, xc, e1, r 6 (by decide), (by show 3 ≤ sizeLine; decide), fun p np => ⟨q, p, _, _, rfl, rfl, new_upd np _ _ l1, upd_same, (by show 7 ≤ sizeLine; decide), fun z nz => ?_⟩⟩
      exact ⟨z, rfl, (s1.trans (new_upd np)).trans (new_upd nz), upd_same⟩
    clear s1 l1 e1
    rintro σ1 H1 ⟨q, rfl, s1, l1⟩
    have e1 := ex.same s1
    refine ⟨fun σ' H' => ∃ q, σ' = [some (.ref a), some (.ref q), none, none] ∧ Same H H' ∧ H' q = some (.lst (fnd b 0 9)), ?_, ?_⟩
    · refine ⟨_, rfl, _, rfl, a, C, _, _, _, rfl, .own _, xc, e1, r 7 (by decide), _, rfl, a, C, _, _, _, rfl, .own _, xc, e1, r 8 (by decide), (by show 2 ≤ sizeLine; decide), fun p np => ⟨q, p, _, _, rfl, rfl, new_upd np _ _ l1, upd_same, (by show 9 ≤ sizeLine; decide), fun z nz => ?_⟩⟩
      exact ⟨z, rfl, (s1.trans (new_upd np)).trans (new_upd nz), upd_same⟩
    clear s1 l1 e1
    rintro σ1 H1 ⟨q, rfl, s1, l1⟩
    have e1 := ex.same s1
    refine ⟨fun σ' H' => ∃ q, σ' = [some (.ref a), some (.ref q), none, none] ∧ Same H H' ∧ H' q = some (.lst (fnd b 0 12)), ?_, ?_⟩
    · refine ⟨_, rfl, _, rfl, a, C, _, _, _, rfl, .own _, xc, e1, r 9 (by decide), _, rfl, a, C, _, _, _, rfl, .own _, xc, e1, r 10 (by decide), _, rfl, a, C, _, _, _, rfl, .own _, xc, e1, r 11 (by decide), (by show 3 ≤ sizeLine; decide), fun p np => ⟨q, p, _, _, rfl, rfl, new_upd np _ _ l1, upd_same, (by show 12 ≤ sizeLine; decide), fun z nz => ?_⟩⟩
      exact ⟨z, rfl, (s1.trans (new_upd np)).trans (new_upd nz), upd_same⟩
    clear s1 l1 e1
    rintro σ1 H1 ⟨q, rfl, s1, l1⟩
    have e1 := ex.same s1
    refine ⟨fun σ' H' => ∃ q, σ' = [some (.ref a), some (.ref q), none, none] ∧ Same H H' ∧ H' q = some (.lst (fnd b 0 15)), ?_, ?_⟩
    · refine ⟨_, rfl, _, rfl, a, C, _, _, _, rfl, .own _, xc, e1, r 12 (by decide), _, rfl, a, C, _, _, _, rfl, .own _, xc, e1, r 13 (by decide), _, rfl, a, C, _, _, _, rfl, .own _, xc, e1, r 14 (by decide), (by show 3 ≤ sizeLine; decide), fun p np => ⟨q, p, _, _, rfl, rfl, new_upd np _ _ l1, upd_same, (by show 15 ≤ sizeLine; decide), fun z nz => ?_⟩⟩
      exact ⟨z, rfl, (s1.trans (new_upd np)).trans (new_upd nz), upd_same⟩
    clear s1 l1 e1
    rintro σ1 H1 ⟨q, rfl, s1, l1⟩
    have e1 := ex.same s1
    refine ⟨fun σ' H' => ∃ q, σ' = [some (.ref a), some (.ref q), none, none] ∧ Same H H' ∧ H' q = some (.lst (fnd b 0 17)), ?_, ?_⟩
    · refine ⟨_, rfl, _, rfl, a, C, _, _, _, rfl, .own _, xc, e1, r 15 (by decide), _, rfl, a, C, _, _, _, rfl, .own _, xc, e1, r 16 (by decide), (by show 2 ≤ sizeLine; decide), fun p np => ⟨q, p, _, _, rfl, rfl, new_upd np _ _ l1, upd_same, (by show 17 ≤ sizeLine; decide), fun z nz => ?_⟩⟩
      exact ⟨z, rfl, (s1.trans (new_upd np)).trans (new_upd nz), upd_same⟩
    clear s1 l1 e1
    rintro σ1 H1 ⟨q, rfl, s1, l1⟩
    have e1 := ex.same s1
    refine ⟨fun σ' H' => ∃ q, σ' = [some (.ref a), some (.ref q), none, none] ∧ Same H H' ∧ H' q = some (.lst (fnd b 0 19)), ?_, ?_⟩
    · refine ⟨_, rfl, _, rfl, a, C, _, _, _, rfl, .own _, xc, e1, r 17 (by decide), _, rfl, a, C, _, _, _, rfl, .own _, xc, e1, r 18 (by decide), (by show 2 ≤ sizeLine; decide), fun p np => ⟨q, p, _, _, rfl, rfl, new_upd np _ _ l1, upd_same, (by show 19 ≤ sizeLine; decide), fun z nz => ?_⟩⟩
      exact ⟨z, rfl, (s1.trans (new_upd np)).trans (new_upd nz), upd_same⟩
    clear s1 l1 e1
    rintro σ1 H1 ⟨q, rfl, s1, l1⟩
    have e1 := ex.same s1
    refine ⟨fun σ' H' => ∃ q z, σ' = [some (.ref a), some (.ref q), some (.ref z), none] ∧ Same H H' ∧ H' q = some (.lst (fnd b 0 19)) ∧ H' z = some (.lst (fnd b 19 3)), ?_, ?_⟩
    · refine ⟨_, rfl, a, C, _, _, _, rfl, .own _, xc, e1, r 19 (by decide), _, rfl, a, C, _, _, _, rfl, .own _, xc, e1, r 20 (by decide), _, rfl, a, C, _, _, _, rfl, .own _, xc, e1, r 21 (by decide), (by show 3 ≤ sizeLine; decide), fun z nz => ?_⟩
      exact ⟨q, z, rfl, s1.trans (new_upd nz), new_upd nz _ _ l1, upd_same⟩
    clear s1 l1 e1
    rintro σ1 H1 ⟨q, z, rfl, s1, l1, l2⟩
    have e1 := ex.same s1
    refine ⟨fun σ' H' => ∃ q z, σ' = [some (.ref a), some (.ref q), some (.ref z), none] ∧ Same H H' ∧ H' q = some (.lst (fnd b 0 19)) ∧ H' z = some (.lst (fnd b 19 6)), ?_, ?_⟩
    · refine ⟨_, rfl, _, rfl, a, C, _, _, _, rfl, .ty _, xc, e1, r 22 (by decide), _, rfl, a, C, _, _, _, rfl, .ty _, xc, e1, r 23 (by decide), _, rfl, a, C, _, _, _, rfl, .ty _, xc, e1, r 24 (by decide), (by show 3 ≤ sizeLine; decide), fun p np => ⟨z, p, _, _, rfl, rfl, new_upd np _ _ l2, upd_same, (by show 6 ≤ sizeLine; decide), fun y ny => ?_⟩⟩
      exact ⟨q, y, rfl, (s1.trans (new_upd np)).trans (new_upd ny), new_upd ny _ _ (new_upd np _ _ l1), upd_same⟩
    clear s1 l1 l2 e1
    rintro σ1 H1 ⟨q, z, rfl, s1, l1, l2⟩
    refine ⟨19, rfl, by decide, by decide, fun D hD => ?_⟩
    have hSq := SqL.of (K := K) l1
    have hSz := SqL.of (K := K) l2
    refine lc_range (lo := 0) (fun i H' => But D H1 H' ∧ H' D = some (.lst (((List.range i).filter b).map fun j => V.int (j : Nat)))) ⟨But.upd, upd_same⟩ ?_ ?_
    · rintro i H2 hi ⟨bD, hDi⟩
      rw [Int.zero_add]
      refine ⟨rfl, ?_⟩
      refine ⟨_, rfl, _, rfl, q, _, _, _, rfl, rfl, SqL.of (bD _ _ (ne_of_none l1 hD) l1), atI_nat (j := i) (fnd_at (show i < 19 from hi)), ?_⟩
      rw [Nat.zero_add]
      refine ⟨_, rfl, ite2 (fun e => ?_) (fun e => ?_)⟩
      · refine ⟨_, rfl, _, hDi, small1000 (rng_len (show i < 19 from hi)), bD.trans But.upd, ?_⟩
        rw [upd_same, rng_yes e]
      · exact ⟨bD, by rw [rng_no e]; exact hDi⟩
    · rintro H2 ⟨bD, hD2⟩
      have nzD := ne_of_none l2 hD
      have s2 : Same H H2 := fun y o ey => bD _ _ (ne_of_none (s1 _ _ ey) hD) (s1 _ _ ey)
      have nD : H D = none := s1.free hD
      refine ⟨6, rfl, by decide, by decide, fun G hG => ?_⟩
      have hGD := new_upd (o := .lst []) hG
      refine lc_range (lo := 0) (fun i H' => But G H2 H' ∧ H' G = some (.lst (((List.range i).filter fun j => b (19 + j)).map fun j => V.int (20 + (j : Nat))))) ⟨But.upd, upd_same⟩ ?_ ?_
      · rintro i H3 hi ⟨bG, hGi⟩
        rw [Int.zero_add]
        refine ⟨rfl, ?_⟩
        have l3 := bG _ _ (ne_of_none (bD _ _ nzD l2) hG) (bD _ _ nzD l2)
        refine ⟨_, rfl, _, rfl, z, _, _, _, rfl, rfl, SqL.of l3, atI_nat (j := i) (fnd_at (show i < 6 from hi)), ?_⟩
        refine ⟨_, rfl, ite2 (fun e => ?_) (fun e => ?_)⟩
        · refine ⟨_, rfl, _, _, rfl, rfl, _, hGi, small1000 (rng_len (show i < 19 by have : i < 6 := hi; omega)), bG.trans But.upd, ?_⟩
          rw [upd_same, rng_yes (b := fun j => b (19 + j)) e]
        · exact ⟨bG, by rw [rng_no (b := fun j => b (19 + j)) e]; exact hGi⟩
      · rintro H3 ⟨bG, hG3⟩
        have hD3 := bG _ _ (ne_of_none hD2 hG) hD2
        have s3 : Same H H3 := fun y o ey => bG _ _ (ne_of_none (s2 _ _ ey) hG) (s2 _ _ ey)
        refine ⟨D, G, _, _, rfl, rfl, hD3, hG3, ?_, fun l nl => ?_⟩
        · have h1 := List.length_filter_le b (List.range 19)
          have h2 := List.length_filter_le (fun j => b (19 + j)) (List.range 6)
          rw [List.length_map, List.length_map]
          rw [List.length_range] at h1 h2
          exact Nat.le_trans (Nat.add_le_add h1 h2) (by decide)
        · exact k _ l (s3.trans (new_upd nl)) (s3.free nl) upd_same
end
end RL

set_option maxHeartbeats 1000000
namespace RL
open PySem L2
/-- the base's __init__ as its callers read it -/
structure Bi (P : Program) (w : World) (K : PySem.W.Frag) (mg : Str → Option Value) (base : Heap) (x : Str) : Prop where
  ex : ∃ (C g : Addr) (mc : Value) (fd : FuncData), mg x = some (.ref C) ∧ ClX.CRead K C mc ∧ PySem.W.findCls K (.ref C) mc "__init__" = some (.val (.ref g)) ∧ PySem.W.keepIn K (.ref g) = true ∧ FnOk P w K mg base CX0 1 g fd ["self"] spN ∧ Binds K fd ["self"] []
section
variable {P : Program} {w : World} {K : PySem.W.Frag} {mg : Str → Option Value} {base : Heap}
abbrev s_WrongValue_init : Stmt := inClass (top 1) 0
theorem sc_WrongValue_init : FnScope ["self"] ["self"] (defScope s_WrongValue_init) := ⟨rfl, rfl, rfl, by decide +kernel, rfl, by decide +kernel, by decide +kernel⟩

theorem ok_WrongValue_init {f : Addr} {fd : FuncData} (F : Fun K "__init__" "WrongValue.__init__" s_WrongValue_init f fd) : FnOk P w K mg base CX0 1 f fd ["self"] spN := by
  refine F.ok sc_WrongValue_init (fun vs H Q E h => ?_) (fun cdv A outer s H vs Q E hr h => ?_)
  · obtain ⟨v, rfl, _⟩ := h
    rfl
  · obtain ⟨v, rfl, k⟩ := h
    exact ⟨_, (pss_one ps_pass), k⟩
abbrev s_WrongName_init : Stmt := inClass (top 15) 0
theorem sc_WrongName_init : FnScope ["self"] ["self"] (defScope s_WrongName_init) := ⟨rfl, rfl, rfl, by decide +kernel, rfl, by decide +kernel, by decide +kernel⟩

theorem ok_WrongName_init {f : Addr} {fd : FuncData} (F : Fun K "__init__" "WrongName.__init__" s_WrongName_init f fd) : FnOk P w K mg base CX0 1 f fd ["self"] spN := by
  refine F.ok sc_WrongName_init (fun vs H Q E h => ?_) (fun cdv A outer s H vs Q E hr h => ?_)
  · obtain ⟨v, rfl, _⟩ := h
    rfl
  · obtain ⟨v, rfl, k⟩ := h
    exact ⟨_, (pss_one ps_pass), k⟩
abbrev s_NoAnswer_init : Stmt := inClass (top 18) 0
theorem sc_NoAnswer_init : FnScope ["self"] ["self"] (defScope s_NoAnswer_init) := ⟨rfl, rfl, rfl, by decide +kernel, rfl, by decide +kernel, by decide +kernel⟩

theorem ok_NoAnswer_init {f : Addr} {fd : FuncData} (F : Fun K "__init__" "NoAnswer.__init__" s_NoAnswer_init f fd) : FnOk P w K mg base CX0 1 f fd ["self"] spN := by
  refine F.ok sc_NoAnswer_init (fun vs H Q E h => ?_) (fun cdv A outer s H vs Q E hr h => ?_)
  · obtain ⟨v, rfl, _⟩ := h
    rfl
  · obtain ⟨v, rfl, k⟩ := h
    exact ⟨_, (pss_one ps_pass), k⟩
abbrev s_NotAPattern_init : Stmt := inClass (top 2) 0
theorem sc_NotAPattern_init : FnScope ["self", "given"] ["self", "given"] (defScope s_NotAPattern_init) := ⟨rfl, rfl, rfl, by decide +kernel, rfl, by decide +kernel, by decide +kernel⟩

theorem ok_NotAPattern_init {f : Addr} {fd : FuncData} (F : Fun K "__init__" "NotAPattern.__init__" s_NotAPattern_init f fd) (B : Bi P w K mg base "WrongValue") : FnOk P w K mg base CX0 2 f fd ["self", "given"] (spI K "given") := by
  obtain ⟨Cb, gb, mc, fdb, gC, rd, hf, kp, Fb, hb⟩ := B.ex
  refine F.ok sc_NotAPattern_init (fun vs H Q E h => ?_) (fun cdv A outer s H vs Q E hr h => ?_)
  · obtain ⟨a, C, y, rfl, _⟩ := h
    rfl
  · obtain ⟨a, C, y, rfl, xc, hno, ha, k⟩ := h
    refine ⟨_, (pss_cons (ps_expr (pe_xbase gC (by rfl) rd hf kp Fb (hr.mono (by decide)) hb (pa_cons (pv 0) pa_nil)))
      (pss_one (ps_xst (pv 0) (pv 1)))), ?_⟩
    exact ⟨_, rfl, _, rfl, _, rfl, _, rfl, a, C, rfl, xc, hno, ha, fun dx nd ne => k dx nd ne⟩
abbrev s_NotARun_init : Stmt := inClass (top 3) 0
theorem sc_NotARun_init : FnScope ["self", "given"] ["self", "given"] (defScope s_NotARun_init) := ⟨rfl, rfl, rfl, by decide +kernel, rfl, by decide +kernel, by decide +kernel⟩

theorem ok_NotARun_init {f : Addr} {fd : FuncData} (F : Fun K "__init__" "NotARun.__init__" s_NotARun_init f fd) (B : Bi P w K mg base "WrongValue") : FnOk P w K mg base CX0 2 f fd ["self", "given"] (spI K "given") := by
  obtain ⟨Cb, gb, mc, fdb, gC, rd, hf, kp, Fb, hb⟩ := B.ex
  refine F.ok sc_NotARun_init (fun vs H Q E h => ?_) (fun cdv A outer s H vs Q E hr h => ?_)
  · obtain ⟨a, C, y, rfl, _⟩ := h
    rfl
  · obtain ⟨a, C, y, rfl, xc, hno, ha, k⟩ := h
    refine ⟨_, (pss_cons (ps_expr (pe_xbase gC (by rfl) rd hf kp Fb (hr.mono (by decide)) hb (pa_cons (pv 0) pa_nil)))
      (pss_one (ps_xst (pv 0) (pv 1)))), ?_⟩
    exact ⟨_, rfl, _, rfl, _, rfl, _, rfl, a, C, rfl, xc, hno, ha, fun dx nd ne => k dx nd ne⟩
abbrev s_InvalidResistance_init : Stmt := inClass (top 4) 0
theorem sc_InvalidResistance_init : FnScope ["self", "given"] ["self", "given"] (defScope s_InvalidResistance_init) := ⟨rfl, rfl, rfl, by decide +kernel, rfl, by decide +kernel, by decide +kernel⟩

theorem ok_InvalidResistance_init {f : Addr} {fd : FuncData} (F : Fun K "__init__" "InvalidResistance.__init__" s_InvalidResistance_init f fd) (B : Bi P w K mg base "WrongValue") : FnOk P w K mg base CX0 2 f fd ["self", "given"] (spI K "given") := by
  obtain ⟨Cb, gb, mc, fdb, gC, rd, hf, kp, Fb, hb⟩ := B.ex
  refine F.ok sc_InvalidResistance_init (fun vs H Q E h => ?_) (fun cdv A outer s H vs Q E hr h => ?_)
  · obtain ⟨a, C, y, rfl, _⟩ := h
    rfl
  · obtain ⟨a, C, y, rfl, xc, hno, ha, k⟩ := h
    refine ⟨_, (pss_cons (ps_expr (pe_xbase gC (by rfl) rd hf kp Fb (hr.mono (by decide)) hb (pa_cons (pv 0) pa_nil)))
      (pss_one (ps_xst (pv 0) (pv 1)))), ?_⟩
    exact ⟨_, rfl, _, rfl, _, rfl, _, rfl, a, C, rfl, xc, hno, ha, fun dx nd ne => k dx nd ne⟩
abbrev s_InvalidCount_init : Stmt := inClass (top 5) 0
theorem sc_InvalidCount_init : FnScope ["self", "given"] ["self", "given"] (defScope s_InvalidCount_init) := ⟨rfl, rfl, rfl, by decide +kernel, rfl, by decide +kernel, by decide +kernel⟩

theorem ok_InvalidCount_init {f : Addr} {fd : FuncData} (F : Fun K "__init__" "InvalidCount.__init__" s_InvalidCount_init f fd) (B : Bi P w K mg base "WrongValue") : FnOk P w K mg base CX0 2 f fd ["self", "given"] (spI K "given") := by
  obtain ⟨Cb, gb, mc, fdb, gC, rd, hf, kp, Fb, hb⟩ := B.ex
  refine F.ok sc_InvalidCount_init (fun vs H Q E h => ?_) (fun cdv A outer s H vs Q E hr h => ?_)
  · obtain ⟨a, C, y, rfl, _⟩ := h
    rfl
  · obtain ⟨a, C, y, rfl, xc, hno, ha, k⟩ := h
    refine ⟨_, (pss_cons (ps_expr (pe_xbase gC (by rfl) rd hf kp Fb (hr.mono (by decide)) hb (pa_cons (pv 0) pa_nil)))
      (pss_one (ps_xst (pv 0) (pv 1)))), ?_⟩
    exact ⟨_, rfl, _, rfl, _, rfl, _, rfl, a, C, rfl, xc, hno, ha, fun dx nd ne => k dx nd ne⟩
abbrev s_InvalidNumber_init : Stmt := inClass (top 6) 0
theorem sc_InvalidNumber_init : FnScope ["self", "given"] ["self", "given"] (defScope s_InvalidNumber_init) := ⟨rfl, rfl, rfl, by decide +kernel, rfl, by decide +kernel, by decide +kernel⟩

theorem ok_InvalidNumber_init {f : Addr} {fd : FuncData} (F : Fun K "__init__" "InvalidNumber.__init__" s_InvalidNumber_init f fd) (B : Bi P w K mg base "WrongValue") : FnOk P w K mg base CX0 2 f fd ["self", "given"] (spI K "given") := by
  obtain ⟨Cb, gb, mc, fdb, gC, rd, hf, kp, Fb, hb⟩ := B.ex
  refine F.ok sc_InvalidNumber_init (fun vs H Q E h => ?_) (fun cdv A outer s H vs Q E hr h => ?_)
  · obtain ⟨a, C, y, rfl, _⟩ := h
    rfl
  · obtain ⟨a, C, y, rfl, xc, hno, ha, k⟩ := h
    refine ⟨_, (pss_cons (ps_expr (pe_xbase gC (by rfl) rd hf kp Fb (hr.mono (by decide)) hb (pa_cons (pv 0) pa_nil)))
      (pss_one (ps_xst (pv 0) (pv 1)))), ?_⟩
    exact ⟨_, rfl, _, rfl, _, rfl, _, rfl, a, C, rfl, xc, hno, ha, fun dx nd ne => k dx nd ne⟩
abbrev s_InvalidText_init : Stmt := inClass (top 7) 0
theorem sc_InvalidText_init : FnScope ["self", "given"] ["self", "given"] (defScope s_InvalidText_init) := ⟨rfl, rfl, rfl, by decide +kernel, rfl, by decide +kernel, by decide +kernel⟩

theorem ok_InvalidText_init {f : Addr} {fd : FuncData} (F : Fun K "__init__" "InvalidText.__init__" s_InvalidText_init f fd) (B : Bi P w K mg base "WrongValue") : FnOk P w K mg base CX0 2 f fd ["self", "given"] (spI K "given") := by
  obtain ⟨Cb, gb, mc, fdb, gC, rd, hf, kp, Fb, hb⟩ := B.ex
  refine F.ok sc_InvalidText_init (fun vs H Q E h => ?_) (fun cdv A outer s H vs Q E hr h => ?_)
  · obtain ⟨a, C, y, rfl, _⟩ := h
    rfl
  · obtain ⟨a, C, y, rfl, xc, hno, ha, k⟩ := h
    refine ⟨_, (pss_cons (ps_expr (pe_xbase gC (by rfl) rd hf kp Fb (hr.mono (by decide)) hb (pa_cons (pv 0) pa_nil)))
      (pss_one (ps_xst (pv 0) (pv 1)))), ?_⟩
    exact ⟨_, rfl, _, rfl, _, rfl, _, rfl, a, C, rfl, xc, hno, ha, fun dx nd ne => k dx nd ne⟩
abbrev s_InvalidName_init : Stmt := inClass (top 8) 0
theorem sc_InvalidName_init : FnScope ["self", "given"] ["self", "given"] (defScope s_InvalidName_init) := ⟨rfl, rfl, rfl, by decide +kernel, rfl, by decide +kernel, by decide +kernel⟩

theorem ok_InvalidName_init {f : Addr} {fd : FuncData} (F : Fun K "__init__" "InvalidName.__init__" s_InvalidName_init f fd) (B : Bi P w K mg base "WrongValue") : FnOk P w K mg base CX0 2 f fd ["self", "given"] (spI K "given") := by
  obtain ⟨Cb, gb, mc, fdb, gC, rd, hf, kp, Fb, hb⟩ := B.ex
  refine F.ok sc_InvalidName_init (fun vs H Q E h => ?_) (fun cdv A outer s H vs Q E hr h => ?_)
  · obtain ⟨a, C, y, rfl, _⟩ := h
    rfl
  · obtain ⟨a, C, y, rfl, xc, hno, ha, k⟩ := h
    refine ⟨_, (pss_cons (ps_expr (pe_xbase gC (by rfl) rd hf kp Fb (hr.mono (by decide)) hb (pa_cons (pv 0) pa_nil)))
      (pss_one (ps_xst (pv 0) (pv 1)))), ?_⟩
    exact ⟨_, rfl, _, rfl, _, rfl, _, rfl, a, C, rfl, xc, hno, ha, fun dx nd ne => k dx nd ne⟩
abbrev s_InvalidClaim_init : Stmt := inClass (top 9) 0
theorem sc_InvalidClaim_init : FnScope ["self", "given"] ["self", "given"] (defScope s_InvalidClaim_init) := ⟨rfl, rfl, rfl, by decide +kernel, rfl, by decide +kernel, by decide +kernel⟩

theorem ok_InvalidClaim_init {f : Addr} {fd : FuncData} (F : Fun K "__init__" "InvalidClaim.__init__" s_InvalidClaim_init f fd) (B : Bi P w K mg base "WrongValue") : FnOk P w K mg base CX0 2 f fd ["self", "given"] (spI K "given") := by
  obtain ⟨Cb, gb, mc, fdb, gC, rd, hf, kp, Fb, hb⟩ := B.ex
  refine F.ok sc_InvalidClaim_init (fun vs H Q E h => ?_) (fun cdv A outer s H vs Q E hr h => ?_)
  · obtain ⟨a, C, y, rfl, _⟩ := h
    rfl
  · obtain ⟨a, C, y, rfl, xc, hno, ha, k⟩ := h
    refine ⟨_, (pss_cons (ps_expr (pe_xbase gC (by rfl) rd hf kp Fb (hr.mono (by decide)) hb (pa_cons (pv 0) pa_nil)))
      (pss_one (ps_xst (pv 0) (pv 1)))), ?_⟩
    exact ⟨_, rfl, _, rfl, _, rfl, _, rfl, a, C, rfl, xc, hno, ha, fun dx nd ne => k dx nd ne⟩
abbrev s_InvalidIndex_init : Stmt := inClass (top 10) 0
theorem sc_InvalidIndex_init : FnScope ["self", "given"] ["self", "given"] (defScope s_InvalidIndex_init) := ⟨rfl, rfl, rfl, by decide +kernel, rfl, by decide +kernel, by decide +kernel⟩

theorem ok_InvalidIndex_init {f : Addr} {fd : FuncData} (F : Fun K "__init__" "InvalidIndex.__init__" s_InvalidIndex_init f fd) (B : Bi P w K mg base "WrongValue") : FnOk P w K mg base CX0 2 f fd ["self", "given"] (spI K "given") := by
  obtain ⟨Cb, gb, mc, fdb, gC, rd, hf, kp, Fb, hb⟩ := B.ex
  refine F.ok sc_InvalidIndex_init (fun vs H Q E h => ?_) (fun cdv A outer s H vs Q E hr h => ?_)
  · obtain ⟨a, C, y, rfl, _⟩ := h
    rfl
  · obtain ⟨a, C, y, rfl, xc, hno, ha, k⟩ := h
    refine ⟨_, (pss_cons (ps_expr (pe_xbase gC (by rfl) rd hf kp Fb (hr.mono (by decide)) hb (pa_cons (pv 0) pa_nil)))
      (pss_one (ps_xst (pv 0) (pv 1)))), ?_⟩
    exact ⟨_, rfl, _, rfl, _, rfl, _, rfl, a, C, rfl, xc, hno, ha, fun dx nd ne => k dx nd ne⟩
abbrev s_InvalidPieces_init : Stmt := inClass (top 11) 0
theorem sc_InvalidPieces_init : FnScope ["self", "index"] ["self", "index"] (defScope s_InvalidPieces_init) := ⟨rfl, rfl, rfl, by decide +kernel, rfl, by decide +kernel, by decide +kernel⟩

theorem ok_InvalidPieces_init {f : Addr} {fd : FuncData} (F : Fun K "__init__" "InvalidPieces.__init__" s_InvalidPieces_init f fd) (B : Bi P w K mg base "WrongValue") : FnOk P w K mg base CX0 2 f fd ["self", "index"] (spI K "index") := by
  obtain ⟨Cb, gb, mc, fdb, gC, rd, hf, kp, Fb, hb⟩ := B.ex
  refine F.ok sc_InvalidPieces_init (fun vs H Q E h => ?_) (fun cdv A outer s H vs Q E hr h => ?_)
  · obtain ⟨a, C, y, rfl, _⟩ := h
    rfl
  · obtain ⟨a, C, y, rfl, xc, hno, ha, k⟩ := h
    refine ⟨_, (pss_cons (ps_expr (pe_xbase gC (by rfl) rd hf kp Fb (hr.mono (by decide)) hb (pa_cons (pv 0) pa_nil)))
      (pss_one (ps_xst (pv 0) (pv 1)))), ?_⟩
    exact ⟨_, rfl, _, rfl, _, rfl, _, rfl, a, C, rfl, xc, hno, ha, fun dx nd ne => k dx nd ne⟩
abbrev s_InvalidKinds_init : Stmt := inClass (top 12) 0
theorem sc_InvalidKinds_init : FnScope ["self", "index"] ["self", "index"] (defScope s_InvalidKinds_init) := ⟨rfl, rfl, rfl, by decide +kernel, rfl, by decide +kernel, by decide +kernel⟩

theorem ok_InvalidKinds_init {f : Addr} {fd : FuncData} (F : Fun K "__init__" "InvalidKinds.__init__" s_InvalidKinds_init f fd) (B : Bi P w K mg base "WrongValue") : FnOk P w K mg base CX0 2 f fd ["self", "index"] (spI K "index") := by
  obtain ⟨Cb, gb, mc, fdb, gC, rd, hf, kp, Fb, hb⟩ := B.ex
  refine F.ok sc_InvalidKinds_init (fun vs H Q E h => ?_) (fun cdv A outer s H vs Q E hr h => ?_)
  · obtain ⟨a, C, y, rfl, _⟩ := h
    rfl
  · obtain ⟨a, C, y, rfl, xc, hno, ha, k⟩ := h
    refine ⟨_, (pss_cons (ps_expr (pe_xbase gC (by rfl) rd hf kp Fb (hr.mono (by decide)) hb (pa_cons (pv 0) pa_nil)))
      (pss_one (ps_xst (pv 0) (pv 1)))), ?_⟩
    exact ⟨_, rfl, _, rfl, _, rfl, _, rfl, a, C, rfl, xc, hno, ha, fun dx nd ne => k dx nd ne⟩
abbrev s_InvalidStretches_init : Stmt := inClass (top 13) 0
theorem sc_InvalidStretches_init : FnScope ["self", "index"] ["self", "index"] (defScope s_InvalidStretches_init) := ⟨rfl, rfl, rfl, by decide +kernel, rfl, by decide +kernel, by decide +kernel⟩

theorem ok_InvalidStretches_init {f : Addr} {fd : FuncData} (F : Fun K "__init__" "InvalidStretches.__init__" s_InvalidStretches_init f fd) (B : Bi P w K mg base "WrongValue") : FnOk P w K mg base CX0 2 f fd ["self", "index"] (spI K "index") := by
  obtain ⟨Cb, gb, mc, fdb, gC, rd, hf, kp, Fb, hb⟩ := B.ex
  refine F.ok sc_InvalidStretches_init (fun vs H Q E h => ?_) (fun cdv A outer s H vs Q E hr h => ?_)
  · obtain ⟨a, C, y, rfl, _⟩ := h
    rfl
  · obtain ⟨a, C, y, rfl, xc, hno, ha, k⟩ := h
    refine ⟨_, (pss_cons (ps_expr (pe_xbase gC (by rfl) rd hf kp Fb (hr.mono (by decide)) hb (pa_cons (pv 0) pa_nil)))
      (pss_one (ps_xst (pv 0) (pv 1)))), ?_⟩
    exact ⟨_, rfl, _, rfl, _, rfl, _, rfl, a, C, rfl, xc, hno, ha, fun dx nd ne => k dx nd ne⟩
abbrev s_InvalidDeeds_init : Stmt := inClass (top 14) 0
theorem sc_InvalidDeeds_init : FnScope ["self", "index"] ["self", "index"] (defScope s_InvalidDeeds_init) := ⟨rfl, rfl, rfl, by decide +kernel, rfl, by decide +kernel, by decide +kernel⟩

theorem ok_InvalidDeeds_init {f : Addr} {fd : FuncData} (F : Fun K "__init__" "InvalidDeeds.__init__" s_InvalidDeeds_init f fd) (B : Bi P w K mg base "WrongValue") : FnOk P w K mg base CX0 2 f fd ["self", "index"] (spI K "index") := by
  obtain ⟨Cb, gb, mc, fdb, gC, rd, hf, kp, Fb, hb⟩ := B.ex
  refine F.ok sc_InvalidDeeds_init (fun vs H Q E h => ?_) (fun cdv A outer s H vs Q E hr h => ?_)
  · obtain ⟨a, C, y, rfl, _⟩ := h
    rfl
  · obtain ⟨a, C, y, rfl, xc, hno, ha, k⟩ := h
    refine ⟨_, (pss_cons (ps_expr (pe_xbase gC (by rfl) rd hf kp Fb (hr.mono (by decide)) hb (pa_cons (pv 0) pa_nil)))
      (pss_one (ps_xst (pv 0) (pv 1)))), ?_⟩
    exact ⟨_, rfl, _, rfl, _, rfl, _, rfl, a, C, rfl, xc, hno, ha, fun dx nd ne => k dx nd ne⟩
abbrev s_UnknownName_init : Stmt := inClass (top 16) 0
theorem sc_UnknownName_init : FnScope ["self", "given"] ["self", "given"] (defScope s_UnknownName_init) := ⟨rfl, rfl, rfl, by decide +kernel, rfl, by decide +kernel, by decide +kernel⟩

theorem ok_UnknownName_init {f : Addr} {fd : FuncData} (F : Fun K "__init__" "UnknownName.__init__" s_UnknownName_init f fd) (B : Bi P w K mg base "WrongName") : FnOk P w K mg base CX0 2 f fd ["self", "given"] (spI K "given") := by
  obtain ⟨Cb, gb, mc, fdb, gC, rd, hf, kp, Fb, hb⟩ := B.ex
  refine F.ok sc_UnknownName_init (fun vs H Q E h => ?_) (fun cdv A outer s H vs Q E hr h => ?_)
  · obtain ⟨a, C, y, rfl, _⟩ := h
    rfl
  · obtain ⟨a, C, y, rfl, xc, hno, ha, k⟩ := h
    refine ⟨_, (pss_cons (ps_expr (pe_xbase gC (by rfl) rd hf kp Fb (hr.mono (by decide)) hb (pa_cons (pv 0) pa_nil)))
      (pss_one (ps_xst (pv 0) (pv 1)))), ?_⟩
    exact ⟨_, rfl, _, rfl, _, rfl, _, rfl, a, C, rfl, xc, hno, ha, fun dx nd ne => k dx nd ne⟩
abbrev s_InUse_init : Stmt := inClass (top 17) 0
theorem sc_InUse_init : FnScope ["self", "index"] ["self", "index"] (defScope s_InUse_init) := ⟨rfl, rfl, rfl, by decide +kernel, rfl, by decide +kernel, by decide +kernel⟩

theorem ok_InUse_init {f : Addr} {fd : FuncData} (F : Fun K "__init__" "InUse.__init__" s_InUse_init f fd) (B : Bi P w K mg base "WrongName") : FnOk P w K mg base CX0 2 f fd ["self", "index"] (spI K "index") := by
  obtain ⟨Cb, gb, mc, fdb, gC, rd, hf, kp, Fb, hb⟩ := B.ex
  refine F.ok sc_InUse_init (fun vs H Q E h => ?_) (fun cdv A outer s H vs Q E hr h => ?_)
  · obtain ⟨a, C, y, rfl, _⟩ := h
    rfl
  · obtain ⟨a, C, y, rfl, xc, hno, ha, k⟩ := h
    refine ⟨_, (pss_cons (ps_expr (pe_xbase gC (by rfl) rd hf kp Fb (hr.mono (by decide)) hb (pa_cons (pv 0) pa_nil)))
      (pss_one (ps_xst (pv 0) (pv 1)))), ?_⟩
    exact ⟨_, rfl, _, rfl, _, rfl, _, rfl, a, C, rfl, xc, hno, ha, fun dx nd ne => k dx nd ne⟩
abbrev s_TooMany_init : Stmt := inClass (top 19) 0
theorem sc_TooMany_init : FnScope ["self", "most"] ["self", "most"] (defScope s_TooMany_init) := ⟨rfl, rfl, rfl, by decide +kernel, rfl, by decide +kernel, by decide +kernel⟩

theorem ok_TooMany_init {f : Addr} {fd : FuncData} (F : Fun K "__init__" "TooMany.__init__" s_TooMany_init f fd) (B : Bi P w K mg base "NoAnswer") : FnOk P w K mg base CX0 2 f fd ["self", "most"] (spI K "most") := by
  obtain ⟨Cb, gb, mc, fdb, gC, rd, hf, kp, Fb, hb⟩ := B.ex
  refine F.ok sc_TooMany_init (fun vs H Q E h => ?_) (fun cdv A outer s H vs Q E hr h => ?_)
  · obtain ⟨a, C, y, rfl, _⟩ := h
    rfl
  · obtain ⟨a, C, y, rfl, xc, hno, ha, k⟩ := h
    refine ⟨_, (pss_cons (ps_expr (pe_xbase gC (by rfl) rd hf kp Fb (hr.mono (by decide)) hb (pa_cons (pv 0) pa_nil)))
      (pss_one (ps_xst (pv 0) (pv 1)))), ?_⟩
    exact ⟨_, rfl, _, rfl, _, rfl, _, rfl, a, C, rfl, xc, hno, ha, fun dx nd ne => k dx nd ne⟩
abbrev s_Broken_init : Stmt := inClass (top 20) 0
theorem sc_Broken_init : FnScope ["self", "index"] ["self", "index"] (defScope s_Broken_init) := ⟨rfl, rfl, rfl, by decide +kernel, rfl, by decide +kernel, by decide +kernel⟩

theorem ok_Broken_init {f : Addr} {fd : FuncData} (F : Fun K "__init__" "Broken.__init__" s_Broken_init f fd) (B : Bi P w K mg base "NoAnswer") : FnOk P w K mg base CX0 2 f fd ["self", "index"] (spI K "index") := by
  obtain ⟨Cb, gb, mc, fdb, gC, rd, hf, kp, Fb, hb⟩ := B.ex
  refine F.ok sc_Broken_init (fun vs H Q E h => ?_) (fun cdv A outer s H vs Q E hr h => ?_)
  · obtain ⟨a, C, y, rfl, _⟩ := h
    rfl
  · obtain ⟨a, C, y, rfl, xc, hno, ha, k⟩ := h
    refine ⟨_, (pss_cons (ps_expr (pe_xbase gC (by rfl) rd hf kp Fb (hr.mono (by decide)) hb (pa_cons (pv 0) pa_nil)))
      (pss_one (ps_xst (pv 0) (pv 1)))), ?_⟩
    exact ⟨_, rfl, _, rfl, _, rfl, _, rfl, a, C, rfl, xc, hno, ha, fun dx nd ne => k dx nd ne⟩
end
end RL

set_option maxHeartbeats 1000000
namespace RL
open PySem L2
/-- at q: a list of pairs of exceptions of the classes c k, c (k + 1), .. -/
def Wl (c : Nat → Addr) (k : Nat) (f : Str) (y : V) (H : Hp) (q : Addr) (xs : List V) : Prop := H q = some (.lst xs) ∧ ∀ i v, xs[i]? = some v → Pr H v (c (k + i)) f y ∧ v ≠ .ref q
section
variable {c : Nat → Addr} {k : Nat} {f : Str} {y : V} {H H' : Hp} {q p : Addr} {xs zs : List V} {v : V} {C : Addr}
theorem Wl.same (h : Wl c k f y H q xs) (s : Same H H') : Wl c k f y H' q xs := ⟨s _ _ h.1, fun i v e => ⟨(h.2 i v e).1.same s, (h.2 i v e).2⟩⟩
theorem Xv.but (h : Xv H p C f y) (hq : H q = some (.lst xs)) (b : But q H H') : Xv H' p C f y := by
  obtain ⟨dx, h1, h2⟩ := h
  have n1 : p ≠ q := ne_of h1 hq (fun z => by unfold exo at z; cases z)
  have n2 : dx ≠ q := ne_of h2 hq (fun z => by unfold exd at z; cases z)
  exact ⟨dx, b _ _ n1 h1, b _ _ n2 h2⟩
theorem Pr.but (h : Pr H v C f y) (hq : H q = some (.lst xs)) (nv : v ≠ .ref q) (b : But q H H') : Pr H' v C f y := by
  obtain ⟨l, a, d, rfl, h1, h2, h3⟩ := h
  exact ⟨l, a, d, rfl, b _ _ (fun z => nv (by rw [z])) h1, h2.but hq b, h3.but hq b⟩
theorem Pr.ne (h : Pr H v C f y) (np : H p = none) : v ≠ .ref p := by
  obtain ⟨l, a, d, rfl, h1, _⟩ := h
  intro z
  cases z
  rw [np] at h1
  cases h1
theorem Wl.app (h : Wl c k f y H q xs) (hv : Pr H v (c (k + xs.length)) f y) (nv : v ≠ .ref q) : Wl c k f y (upd H q (.lst (xs ++ [v]))) q (xs ++ [v]) := by
  refine ⟨upd_same, fun i u e => ?_⟩
  rw [List.getElem?_append] at e
  split at e
  · exact ⟨(h.2 i u e).1.but h.1 (h.2 i u e).2 But.upd, (h.2 i u e).2⟩
  · rename_i hi
    cases hz : i - xs.length with
    | zero =>
      rw [hz] at e
      cases e
      have : i = xs.length := by omega
      subst this
      exact ⟨hv.but h.1 nv But.upd, nv⟩
    | succ n =>
      rw [hz] at e
      cases e
theorem Wl.cat (h : Wl c k f y H q xs) (hz : ∀ i v, zs[i]? = some v → Pr H v (c (k + (xs.length + i))) f y) (np : H p = none) : Wl c k f y (upd H p (.lst (xs ++ zs))) p (xs ++ zs) := by
  refine ⟨upd_same, fun i u e => ?_⟩
  have key : Pr H u (c (k + i)) f y := by
    rw [List.getElem?_append] at e
    split at e
    · exact (h.2 i u e).1
    · rename_i hi
      have := hz _ u e
      rw [show xs.length + (i - xs.length) = i by omega] at this
      exact this
  exact ⟨key.same (new_upd np), key.ne np⟩
end
def spMany (c : Nat → Addr) (k n : Nat) (f : Str) : Sp := fun vs H Q _ => ∃ y : V, vs = [y] ∧ ∀ H' l xs, Same H H' → H l = none → Wl c k f y H' l xs → xs.length = n → Q (.ref l) H'
section
variable {P : Program} {w : World} {K : PySem.W.Frag} {mg : Str → Option Value} {base : Heap} {c : Nat → Addr} {aO : Addr} {tk : Nat → Tok}
theorem two_at {Z : Nat → V → Prop} {u v : V} (h0 : Z 0 u) (h1 : Z 1 v) : ∀ i x, [u, v][i]? = some x → Z i x
  | 0, _, rfl => h0
  | 1, _, rfl => h1
  | _ + 2, _, h => by cases h
theorem one_at {Z : Nat → V → Prop} {u : V} (h0 : Z 0 u) : ∀ i x, [u][i]? = some x → Z i x
  | 0, _, rfl => h0
  | _ + 1, _, h => by cases h
theorem But.same_of {H H1 H2 : Hp} {q : Addr} (s : Same H H1) (n : H q = none) (b : But q H1 H2) : Same H H2 := fun x o e => b _ _ (ne_of_none e n) (s _ _ e)
abbrev s_law_given : Stmt := top 36
theorem sc_law_given : FnScope ["_law_thing", "_law_found"] ["_law_thing"] (defScope s_law_given) := ⟨rfl, rfl, rfl, by decide +kernel, rfl, by decide +kernel, by decide +kernel⟩

theorem ok_given {f : Addr} {fd : FuncData} (F : Fun K "_law_given" "_law_given" s_law_given f fd) (T : Tx K mg c aO tk) (M : Ms P w K mg base c) : FnOk P w K mg base CX0 4 f fd ["_law_thing"] (spMany c 0 9 "given") := by
  refine F.ok sc_law_given (fun vs H Q E h => ?_) (fun cdv A outer s H vs Q E hr h => ?_)
  · obtain ⟨y, rfl, _⟩ := h
    rfl
  · obtain ⟨y, rfl, k⟩ := h
    refine ⟨_, (pss_cons (ps_set (i := 1) sc_law_given.nd rfl (.inl rfl) (pe_lst (pa_cons (pe_pair M.m0 M.m0.xc.n1 (hr.mono (by decide)) (by rfl) T.m0 (pv 0) (pv 0)) (pa_cons (pe_pair M.m1 M.m1.xc.n1 (hr.mono (by decide)) (by rfl) T.m1 (pv 0) (pv 0)) pa_nil))))
      (pss_cons (ps_expr (pe_bm PySem.F.plainAttrs_list PySem.F.slot_list_append PySem.F.type_list_append mt_append (pv 1) (pa_cons (pe_pair M.m2 M.m2.xc.n1 (hr.mono (by decide)) (by rfl) T.m2 (pv 0) (pv 0)) pa_nil)))
      (pss_cons (ps_expr (pe_bm PySem.F.plainAttrs_list PySem.F.slot_list_append PySem.F.type_list_append mt_append (pv 1) (pa_cons (pe_pair M.m3 M.m3.xc.n1 (hr.mono (by decide)) (by rfl) T.m3 (pv 0) (pv 0)) pa_nil)))
      (pss_cons (ps_expr (pe_bm PySem.F.plainAttrs_list PySem.F.slot_list_append PySem.F.type_list_append mt_append (pv 1) (pa_cons (pe_pair M.m4 M.m4.xc.n1 (hr.mono (by decide)) (by rfl) T.m4 (pv 0) (pv 0)) pa_nil)))
      (pss_cons (ps_set (i := 1) sc_law_given.nd rfl (.inl rfl) (pe_op op_cat (pv 1) (pe_lst (pa_cons (pe_pair M.m5 M.m5.xc.n1 (hr.mono (by decide)) (by rfl) T.m5 (pv 0) (pv 0)) (pa_cons (pe_pair M.m6 M.m6.xc.n1 (hr.mono (by decide)) (by rfl) T.m6 (pv 0) (pv 0)) pa_nil)))))
      (pss_one (ps_ret (pe_op op_cat (pv 1) (pe_lst (pa_cons (pe_pair M.m7 M.m7.xc.n1 (hr.mono (by decide)) (by rfl) T.m7 (pv 0) (pv 0)) (pa_cons (pe_pair M.m8 M.m8.xc.n1 (hr.mono (by decide)) (by rfl) T.m8 (pv 0) (pv 0)) pa_nil))))))))))), ?_⟩
    refine ⟨y, rfl, fun v0 H0 s0 p0 w0 => ⟨y, rfl, fun v1 H1 s1 p1 w1 => ⟨(by show 2 ≤ sizeLine; decide), fun q nq => ?_⟩⟩⟩
    have W1 : Wl c 0 "given" y (upd H1 q (.lst [v0, v1])) q [v0, v1] := ⟨upd_same, two_at ⟨(p0.same s1).same (new_upd nq), (p0.same s1).ne nq⟩ ⟨p1.same (new_upd nq), p1.ne nq⟩⟩
    have S1 := (s0.trans s1).trans (new_upd (o := .lst [v0, v1]) nq)
    have nH : H q = none := (s0.trans s1).free nq
    refine ⟨_, rfl, .inl ⟨rfl, _, SqL.of W1.1⟩, y, rfl, fun v2 H2 s2 p2 w2 => ?_⟩
    have nv2 : v2 ≠ .ref q := fun z => absurd (w2 q z) (by rw [W1.1]; intro z; cases z)
    have W2 := (W1.same s2).app (v := v2) p2 nv2
    have S2 := But.same_of (S1.trans s2) nH (But.upd (o := .lst ([v0, v1] ++ [v2])))
    refine ⟨q, _, _, rfl, rfl, (W1.same s2).1, small1000 (by show 2 ≤ 1000; decide), ?_⟩
    refine ⟨_, rfl, .inl ⟨rfl, _, SqL.of W2.1⟩, y, rfl, fun v3 H3 s3 p3 w3 => ?_⟩
    have nv3 : v3 ≠ .ref q := fun z => absurd (w3 q z) (by rw [W2.1]; intro z; cases z)
    have W3 := (W2.same s3).app (v := v3) p3 nv3
    have S3 := But.same_of (S2.trans s3) nH (But.upd (o := .lst (([v0, v1] ++ [v2]) ++ [v3])))
    refine ⟨q, _, _, rfl, rfl, (W2.same s3).1, small1000 (by show 3 ≤ 1000; decide), ?_⟩
    refine ⟨_, rfl, .inl ⟨rfl, _, SqL.of W3.1⟩, y, rfl, fun v4 H4 s4 p4 w4 => ?_⟩
    have nv4 : v4 ≠ .ref q := fun z => absurd (w4 q z) (by rw [W3.1]; intro z; cases z)
    have W4 := (W3.same s4).app (v := v4) p4 nv4
    have S4 := But.same_of (S3.trans s4) nH (But.upd (o := .lst (([v0, v1] ++ [v2] ++ [v3]) ++ [v4])))
    refine ⟨q, _, _, rfl, rfl, (W3.same s4).1, small1000 (by show 4 ≤ 1000; decide), ?_⟩
    refine ⟨_, rfl, y, rfl, fun v5 H5 s5 p5 w5 => ⟨y, rfl, fun v6 H6 s6 p6 w6 => ⟨(by show 2 ≤ sizeLine; decide), fun b5 nb5 => ?_⟩⟩⟩
    have n5 := new_upd (o := .lst [v5, v6]) nb5
    have V5 := ((W4.same s5).same s6).same n5
    refine ⟨q, b5, _, _, rfl, rfl, V5.1, upd_same, (by show 7 ≤ sizeLine; decide), fun r nn5 => ?_⟩
    have W6 := V5.cat (two_at (Z := fun i v => Pr _ v (c (0 + (5 + i))) "given" y) ((p5.same s6).same n5) (p6.same n5)) nn5
    have S6 := (((S4.trans s5).trans s6).trans n5).trans (new_upd (o := .lst (([v0, v1] ++ [v2] ++ [v3] ++ [v4]) ++ [v5, v6])) nn5)
    refine ⟨_, rfl, y, rfl, fun v7 H7 s7 p7 w7 => ⟨y, rfl, fun v8 H8 s8 p8 w8 => ⟨(by show 2 ≤ sizeLine; decide), fun b7 nb7 => ?_⟩⟩⟩
    have n7 := new_upd (o := .lst [v7, v8]) nb7
    have V7 := ((W6.same s7).same s8).same n7
    refine ⟨r, b7, _, _, rfl, rfl, V7.1, upd_same, (by show 9 ≤ sizeLine; decide), fun t nn7 => ?_⟩
    have W8 := V7.cat (two_at (Z := fun i v => Pr _ v (c (0 + (7 + i))) "given" y) ((p7.same s8).same n7) (p8.same n7)) nn7
    have S8 := (((S6.trans s7).trans s8).trans n7).trans (new_upd (o := .lst ((([v0, v1] ++ [v2] ++ [v3] ++ [v4]) ++ [v5, v6]) ++ [v7, v8])) nn7)
    exact k _ _ _ S8 ((((S6.trans s7).trans s8).trans n7).free nn7) W8 rfl
abbrev s_law_indexed : Stmt := top 37
theorem sc_law_indexed : FnScope ["_law_thing", "_law_found"] ["_law_thing"] (defScope s_law_indexed) := ⟨rfl, rfl, rfl, by decide +kernel, rfl, by decide +kernel, by decide +kernel⟩

theorem ok_indexed {f : Addr} {fd : FuncData} (F : Fun K "_law_indexed" "_law_indexed" s_law_indexed f fd) (T : Tx K mg c aO tk) (M : Ms P w K mg base c) : FnOk P w K mg base CX0 4 f fd ["_law_thing"] (spMany c 9 4 "index") := by
  refine F.ok sc_law_indexed (fun vs H Q E h => ?_) (fun cdv A outer s H vs Q E hr h => ?_)
  · obtain ⟨y, rfl, _⟩ := h
    rfl
  · obtain ⟨y, rfl, k⟩ := h
    refine ⟨_, (pss_cons (ps_set (i := 1) sc_law_indexed.nd rfl (.inl rfl) (pe_lst (pa_cons (pe_pair M.m9 M.m9.xc.n2 (hr.mono (by decide)) (by rfl) T.m9 (pv 0) (pv 0)) (pa_cons (pe_pair M.m10 M.m10.xc.n2 (hr.mono (by decide)) (by rfl) T.m10 (pv 0) (pv 0)) pa_nil))))
      (pss_cons (ps_expr (pe_bm PySem.F.plainAttrs_list PySem.F.slot_list_append PySem.F.type_list_append mt_append (pv 1) (pa_cons (pe_pair M.m11 M.m11.xc.n2 (hr.mono (by decide)) (by rfl) T.m11 (pv 0) (pv 0)) pa_nil)))
      (pss_one (ps_ret (pe_op op_cat (pv 1) (pe_lst (pa_cons (pe_pair M.m12 M.m12.xc.n2 (hr.mono (by decide)) (by rfl) T.m12 (pv 0) (pv 0)) pa_nil))))))), ?_⟩
    refine ⟨y, rfl, fun v0 H0 s0 p0 w0 => ⟨y, rfl, fun v1 H1 s1 p1 w1 => ⟨(by show 2 ≤ sizeLine; decide), fun q nq => ?_⟩⟩⟩
    have W1 : Wl c 9 "index" y (upd H1 q (.lst [v0, v1])) q [v0, v1] := ⟨upd_same, two_at ⟨(p0.same s1).same (new_upd nq), (p0.same s1).ne nq⟩ ⟨p1.same (new_upd nq), p1.ne nq⟩⟩
    have S1 := (s0.trans s1).trans (new_upd (o := .lst [v0, v1]) nq)
    have nH : H q = none := (s0.trans s1).free nq
    refine ⟨_, rfl, .inl ⟨rfl, _, SqL.of W1.1⟩, y, rfl, fun v2 H2 s2 p2 w2 => ?_⟩
    have nv2 : v2 ≠ .ref q := fun z => absurd (w2 q z) (by rw [W1.1]; intro z; cases z)
    have W2 := (W1.same s2).app (v := v2) p2 nv2
    have S2 := But.same_of (S1.trans s2) nH (But.upd (o := .lst ([v0, v1] ++ [v2])))
    refine ⟨q, _, _, rfl, rfl, (W1.same s2).1, small1000 (by show 2 ≤ 1000; decide), ?_⟩
    refine ⟨_, rfl, y, rfl, fun v5 H5 s5 p5 w5 => ⟨(by show 1 ≤ sizeLine; decide), fun b5 nb5 => ?_⟩⟩
    have n5 := new_upd (o := .lst [v5]) nb5
    have V5 := (W2.same s5).same n5
    refine ⟨q, b5, _, _, rfl, rfl, V5.1, upd_same, (by show 4 ≤ sizeLine; decide), fun t nn5 => ?_⟩
    have W6 := V5.cat (one_at (Z := fun i v => Pr _ v (c (9 + (3 + i))) "index" y) (p5.same n5)) nn5
    have S6 := ((S2.trans s5).trans n5).trans (new_upd (o := .lst ([v0, v1] ++ [v2] ++ [v5])) nn5)
    exact k _ _ _ S6 (((S2.trans s5).trans n5).free nn5) W6 rfl
end
end RL

set_option maxHeartbeats 1000000
namespace RL
open PySem L2
def up (i : Nat) : Nat := if i < 13 then 0 else if i < 15 then 1 else if i < 19 then 2 else i - 19
/-- class i is, of the classes asked, the j-th one -/
def tb (i j : Nat) : Bool := (j == i) || (j == 19 + up i) || (j == 22 + up i)
theorem ans9 : ∀ i, i < 9 → ans (tb i) = [.int (i : Nat), .int 20, .int 23] := by decide +kernel
theorem ans4 : ∀ i, i < 4 → ans (tb (9 + i)) = [.int (9 + (i : Nat)), .int 20, .int 23] := by decide +kernel
theorem ans13 : ans (tb 13) = [.int 13, .int 21, .int 24] := by decide +kernel
theorem ans14 : ans (tb 14) = [.int 14, .int 21, .int 24] := by decide +kernel
theorem ans15 : ans (tb 15) = [.int 15, .int 22, .int 25] := by decide +kernel
theorem ans16 : ans (tb 16) = [.int 16, .int 22, .int 25] := by decide +kernel
theorem two_same {i j k : Int} {x : Str} : PyData.eqv (.list [.list [.int i, .int j, .int k, .str x], .list [.int i, .int j, .int k, .str x]]) (.list [.list [.int i, .int j, .int k, .str x], .list [.int i, .int j, .int k, .str x]]) = true := by
  simp [PyData.eqv, PyData.eqvAll]
theorem two_dp {K : PySem.W.Frag} {H : Hp} {p r1 r2 : Addr} {i j k : Int} {x : Str} (hp : H p = some (.lst [.ref r1, .ref r2])) (h1 : H r1 = some (.lst [.int i, .int j, .int k, .str x])) (h2 : H r2 = some (.lst [.int i, .int j, .int k, .str x])) :
    Dp K H (.ref p) (.list [.list [.int i, .int j, .int k, .str x], .list [.int i, .int j, .int k, .str x]]) :=
  .lst (SqL.of hp) (.cons (.lst (SqL.of h1) (.cons (.int _) (.cons (.int _) (.cons (.int _) (.cons (.str _) .nil))))) (.cons (.lst (SqL.of h2) (.cons (.int _) (.cons (.int _) (.cons (.int _) (.cons (.str _) .nil))))) .nil))
theorem two_shaped {i j k : Int} {x : Str} (h : PyData.canLay0 (.str x) = true) : SeqAt.shaped (.list [.list [.int i, .int j, .int k, .str x], .list [.int i, .int j, .int k, .str x]]) = true := by
  have e : PyData.canLay0 (.list [.list [.int i, .int j, .int k, .str x], .list [.int i, .int j, .int k, .str x]]) = true := by
    simp only [PyData.canLay0] at h
    simp [PyData.canLay0, PyData.canLayAll0, h]
  unfold SeqAt.shaped
  rw [e]
  rfl
theorem ne_no {i j k : Int} {x : Str} : ¬ (!PyData.eqv (.list [.list [.int i, .int j, .int k, .str x], .list [.int i, .int j, .int k, .str x]]) (.list [.list [.int i, .int j, .int k, .str x], .list [.int i, .int j, .int k, .str x]])) = true := by
  rw [two_same]
  decide
structure Rs (K : PySem.W.Frag) (c : Nat → Addr) : Prop where
  xc : ∀ i, i < 22 → XC K (c i)
  row : ∀ i, i < 22 → IsRow K c (c i) (tb i)
/-- a thing that is told by repr -/
def Th (K : PySem.W.Frag) (H : Hp) (v : V) (x : Str) : Prop := ∃ d : PyData, Dq K H v d ∧ d.showable = true ∧ d.depth ≤ 40 ∧ d.shown.length ≤ sizeLine ∧ PyData.canLay0 (.str d.shown) = true ∧ x = d.shown
theorem Th.same {K : PySem.W.Frag} {H H' : Hp} {v : V} {x : Str} (h : Th K H v x) (s : Same H H') : Th K H' v x := by
  obtain ⟨d, h1, h2⟩ := h
  exact ⟨d, h1.same s, h2⟩
theorem upd_at {H : Hp} {p : Addr} {o : HO} (h : H p = none) : upd H p o p = some o := upd_same
theorem upd_at2 {H : Hp} {p : Addr} {o u : HO} (h : H p = none) : upd (upd H p o) p u p = some u := upd_same
theorem new_upd2 {H : Hp} {p : Addr} {o u : HO} (h : H p = none) : Same H (upd (upd H p o) p u) := by
  rw [upd_upd]
  exact new_upd h
theorem Xv.del {H H' : Hp} {a C D : Addr} {f : Str} {y : V} (h : Xv H a C f y) (n : H D = none) (b : But D H H') : Xv H' a C f y := by
  obtain ⟨dx, h1, h2⟩ := h
  exact ⟨dx, b _ _ (ne_of_none h1 n) h1, b _ _ (ne_of_none h2 n) h2⟩
theorem rows_in {K : PySem.W.Frag} {c : Nat → Addr} {f : Str} {H : Hp} {Qd : Hp → Prop} {s0 s1 s2 s3 s4 s5 : Option V} {y : V} {l a a' C D : Addr} {b : Nat → Bool} {x : Str} (h1 : H l = some (.lst [.ref a, .ref a'])) (x1 : Xv H a C f y) (x2 : Xv H a' C f y) (hD : H D = none)
    (xc : XC K C) (hno : PySem.W.findIn K (.ref C) f = some none) (row : IsRow K c C b) (th : Th K H y x) (hl : (ans b).length ≤ 30)
    (q : ∀ r1 r2 H', Same H H' → H' D = some (.lst [.ref r1, .ref r2]) → H' r1 = some (.lst (ans b ++ [.str x])) → H' r2 = some (.lst (ans b ++ [.str x])) → Qd H') :
    ∃ W : Nat → Nat → Hp → Prop, (∃ m, W 0 m (upd H D (.lst []))) ∧ ∀ i m G, W i m G → ((Itl K l).stop i G ∧ Qd G) ∨ ((Itl K l).go i G ∧ ∃ Nx : Hp → Prop, (∀ G', Nx G' → ∃ m', m' < m ∧ W (i + 1) m' G') ∧ ∀ z G', (Itl K l).yld i G z G' →
      gName 5 z (wipe [s0, s1, s2, s3, s4, s5] (List.map (·.2) [(("_law_e" : Str), 5)])) G' fun σ2 H2 => wipe σ2 (List.map (·.2) [(("_law_e" : Str), 5)]) = wipe [s0, s1, s2, s3, s4, s5] (List.map (·.2) [(("_law_e" : Str), 5)]) ∧ tYes σ2 H2 fun ok H3 => if ok = true then
        tOp rCat (tCall (spClasses K c) [] E0 (tCons (tVar 5) tNil)) (tLst (tCons (tCB (rRp K) (tCons (tXfd K f (tVar 5)) tNil)) tNil)) σ2 H3 fun u H4 => ∃ acc, H4 D = some (.lst acc) ∧ acc.length < sizeLine ∧ Nx (upd H4 D (.lst (acc ++ [u]))) else Nx H3) := by
  refine lc_list (K := K) (a := l) (xs := [.ref a, .ref a']) (fun i H' => But D H H' ∧ ∃ rs : List Addr, H' D = some (.lst (rs.map V.ref)) ∧ rs.length = i ∧ ∀ r, r ∈ rs → r ≠ D ∧ H' r = some (.lst (ans b ++ [.str x]))) ⟨But.upd, [], upd_same, rfl, fun r hr => absurd hr (by simp)⟩ (fun i H' _ p => SqL.of (p.1 _ _ (ne_of_none h1 hD) h1)) ?_ ?_
  · rintro i v H2 hi ⟨bD, rs, hDs, ln, hrs⟩
    obtain ⟨e, rfl, xe⟩ : ∃ e, v = .ref e ∧ Xv H2 e C f y := two_at (Z := fun _ v => ∃ e, v = .ref e ∧ Xv H2 e C f y) ⟨a, rfl, x1.del hD bD⟩ ⟨a', rfl, x2.del hD bD⟩ i v hi
    have li : i < 2 := (List.getElem?_eq_some_iff.mp hi).1
    refine ⟨rfl, ?_⟩
    unfold tYes
    refine iteT ?_
    obtain ⟨dx, g1, g2⟩ := id xe
    refine ⟨_, rfl, e, C, b, rfl, xc, .inr ⟨dx, _, g1, g2⟩, row, fun H3 l3 s3 n3 hl3 => ?_⟩
    obtain ⟨d, dq, d1, d2, d3, d4, rfl⟩ := th
    have sH2 : Same H H2 := fun y o e => bD _ _ (ne_of_none e hD) e
    refine ⟨_, rfl, e, C, dx, _, y, rfl, xc, hno, s3 _ _ g1, s3 _ _ g2, (by rw [lookup_put, if_pos rfl]), y, d, rfl, dq.same (sH2.trans s3), d1, d2, d3, (by show 1 ≤ sizeLine; decide), fun p np => ?_⟩
    refine ⟨l3, p, _, _, rfl, rfl, new_upd np _ _ hl3, upd_same, ?_, fun r nr => ?_⟩
    · refine Nat.le_trans (Nat.add_le_add hl (Nat.le_refl 1)) ?_
      decide
    have s4 := (s3.trans (new_upd (o := .lst [.str d.shown]) np)).trans (new_upd (o := .lst (ans b ++ [.str d.shown])) nr)
    have nrD : r ≠ D := (ne_of_none ((s3.trans (new_upd (o := .lst [.str d.shown]) np)) _ _ hDs) nr).symm
    refine ⟨_, s4 _ _ hDs, small1000 (by rw [List.length_map, ln]; omega), ?_, rs ++ [r], ?_, by rw [List.length_append, ln]; rfl, fun z hz => ?_⟩
    · intro u o nu eu
      rw [upd_ne nu]
      exact s4 _ _ (bD _ _ nu eu)
    · rw [upd_same, List.map_append]
      rfl
    · rcases List.mem_append.mp hz with hz | hz
      · exact ⟨(hrs z hz).1, by rw [upd_ne (hrs z hz).1]; exact s4 _ _ (hrs z hz).2⟩
      · rw [List.mem_singleton.mp hz]
        exact ⟨nrD, by rw [upd_ne nrD]; exact upd_same⟩
  · rintro H2 ⟨bD, rs, hDs, ln, hrs⟩
    match rs, ln, hDs, hrs with
    | [r1, r2], _, hDs, hrs => exact q r1 r2 H2 (fun y o e => bD _ _ (ne_of_none e hD) e) hDs (hrs r1 (by simp)).2 (hrs r2 (by simp)).2
section
variable {P : Program} {w : World} {K : PySem.W.Frag} {mg : Str → Option Value} {base : Heap} {c : Nat → Addr} {aO : Addr} {tk : Nat → Tok}
abbrev s_law_right : Stmt := top 38
theorem sc_law_right : FnScope ["_law_cup_here", "_law_things", "_law_thing", "_law_at", "_law_both", "_law_e"] ["_law_cup_here"] (defScope s_law_right) := ⟨rfl, rfl, rfl, by decide +kernel, rfl, by decide +kernel, by decide +kernel⟩

set_option maxHeartbeats 2000000 in
theorem ok_right {f : Addr} {fd : FuncData} (F : Fun K "_law_right" "_law_right" s_law_right f fd) (T : Tx K mg c aO tk) (M : Ms P w K mg base c) (R : Rs K c) (D_law_pick : Df P w K mg base 2 "_law_pick" ["_law_cup_here", "_law_things"] spPick)
    (D_law_classes : Df P w K mg base 1 "_law_classes" ["_law_e"] (spClasses K c)) (D_law_given : Df P w K mg base 4 "_law_given" ["_law_thing"] (spMany c 0 9 "given")) (D_law_indexed : Df P w K mg base 4 "_law_indexed" ["_law_thing"] (spMany c 9 4 "index")) :
    FnG P w K mg base 5 f fd ["_law_cup_here"] (fun vs H Q _ => ∃ c : Addr, vs = [.ref c] ∧ CupAt c H ∧ ∀ H', But c H H' → Q (.bl true) H') := by
  refine okG F sc_law_right (fun vs H Q E h => ?_) (fun cdv A outer s H vs Q E hg hr h => ?_)
  · obtain ⟨c, rfl, _⟩ := h
    rfl
  · obtain ⟨cc, rfl, hc, k⟩ := h
    refine ⟨_, (C8.pss_cut (ps_set (i := 1) sc_law_right.nd rfl (.inl rfl) (pe_lst (pa_cons pe_non (pa_cons pe_int (pa_cons (pe_un un_neg pe_int) (pa_cons pe_bl (pa_cons pe_str (pa_cons pe_str (pa_cons (pe_tup pa_nil) (pa_cons (pe_tup (pa_cons pe_int (pa_cons pe_int pa_nil))) (pa_cons (pe_lst pa_nil) (pa_cons (pe_lst (pa_cons pe_int pa_nil)) (pa_cons pe_dnewK (pa_cons (pe_disp (pps_cons pe_str pe_int pps_nil) rfl rfl (by decide) (by decide)) (pa_cons (pe_op op_pow pe_int pe_int) (pa_cons (pe_tup (pa_cons pe_str (pa_cons pe_int pa_nil))) pa_nil))))))))))))))))
      (C8.pss_cut (ps_set (i := 2) sc_law_right.nd rfl (.inl rfl) (pe_df D_law_pick (hr.mono (by decide)) (by rfl) (pa_cons (pv 0) (pa_cons (pv 1) pa_nil))))
      (C8.pss_cut (ps_for PassesOwn.never rfl (pi_enum (by rfl) T.enumerate (pa_cons (pe_df D_law_given (hr.mono (by decide)) (by rfl) (pa_cons (pv 2) pa_nil)) pa_nil)) (pg_tup rfl (pgs_cons (pg_name (i := 3) sc_law_right.nd rfl (.inl rfl)) (pgs_cons (pg_name (i := 4) sc_law_right.nd rfl (.inl rfl)) pgs_nil))) (pss_one (ps_if (pt_cmpR (op_neD hr.units) (pe_lc (own := [("_law_e", 5)]) (g := gName 5) (tt := tYes) rfl sc_law_right.nd (pi_list (pv 4)) (blkOk_by (N := ["_law_cup_here", "_law_things", "_law_thing", "_law_at", "_law_both", "_law_e"]) (sc := defScope s_law_right) (by decide +kernel)) (fun _ _ _ _ _ => pg_name (i := 5) sc_law_right.nd rfl (Or.inl rfl)) (fun _ _ _ _ _ => pts_nil) (fun _ _ _ _ _ => (pe_op op_cat (pe_df D_law_classes (hr.mono (by decide)) (by rfl) (pa_cons (pv 5) pa_nil)) (pe_lst (pa_cons (pe_callB (cr_rpK (K := K) hg hr.units) (by rfl) T.repr (by decide +kernel) (pa_cons (pe_xfdK (K := K) (pv 5)) pa_nil)) pa_nil))))) (pe_op op_rep (pe_lst (pa_cons (pe_lst (pa_cons (pv 3) (pa_cons pe_int (pa_cons pe_int (pa_cons (pe_callB (cr_rpK (K := K) hg hr.units) (by rfl) T.repr (by decide +kernel) (pa_cons (pv 2) pa_nil)) pa_nil))))) pa_nil)) pe_int) (nomark _)) (pss_one (ps_ret pe_bl)) pss_nil)))
      (C8.pss_cut (ps_for PassesOwn.never rfl (pi_enum (by rfl) T.enumerate (pa_cons (pe_df D_law_indexed (hr.mono (by decide)) (by rfl) (pa_cons (pv 2) pa_nil)) pa_nil)) (pg_tup rfl (pgs_cons (pg_name (i := 3) sc_law_right.nd rfl (.inl rfl)) (pgs_cons (pg_name (i := 4) sc_law_right.nd rfl (.inl rfl)) pgs_nil))) (pss_one (ps_if (pt_cmpR (op_neD hr.units) (pe_lc (own := [("_law_e", 5)]) (g := gName 5) (tt := tYes) rfl sc_law_right.nd (pi_list (pv 4)) (blkOk_by (N := ["_law_cup_here", "_law_things", "_law_thing", "_law_at", "_law_both", "_law_e"]) (sc := defScope s_law_right) (by decide +kernel)) (fun _ _ _ _ _ => pg_name (i := 5) sc_law_right.nd rfl (Or.inl rfl)) (fun _ _ _ _ _ => pts_nil) (fun _ _ _ _ _ => (pe_op op_cat (pe_df D_law_classes (hr.mono (by decide)) (by rfl) (pa_cons (pv 5) pa_nil)) (pe_lst (pa_cons (pe_callB (cr_rpK (K := K) hg hr.units) (by rfl) T.repr (by decide +kernel) (pa_cons (pe_xfdK (K := K) (pv 5)) pa_nil)) pa_nil))))) (pe_op op_rep (pe_lst (pa_cons (pe_lst (pa_cons (pe_op op_add pe_int (pv 3)) (pa_cons pe_int (pa_cons pe_int (pa_cons (pe_callB (cr_rpK (K := K) hg hr.units) (by rfl) T.repr (by decide +kernel) (pa_cons (pv 2) pa_nil)) pa_nil))))) pa_nil)) pe_int) (nomark _)) (pss_one (ps_ret pe_bl)) pss_nil)))
      (C8.pss_cut (ps_set (i := 4) sc_law_right.nd rfl (.inl rfl) (pe_pair M.m13 M.m13.xc.n1 (hr.mono (by decide)) (by rfl) T.m13 (pv 2) (pv 2)))
      (C8.pss_cut (ps_if (pt_cmpR (op_neD hr.units) (pe_lc (own := [("_law_e", 5)]) (g := gName 5) (tt := tYes) rfl sc_law_right.nd (pi_list (pv 4)) (blkOk_by (N := ["_law_cup_here", "_law_things", "_law_thing", "_law_at", "_law_both", "_law_e"]) (sc := defScope s_law_right) (by decide +kernel)) (fun _ _ _ _ _ => pg_name (i := 5) sc_law_right.nd rfl (Or.inl rfl)) (fun _ _ _ _ _ => pts_nil) (fun _ _ _ _ _ => (pe_op op_cat (pe_df D_law_classes (hr.mono (by decide)) (by rfl) (pa_cons (pv 5) pa_nil)) (pe_lst (pa_cons (pe_callB (cr_rpK (K := K) hg hr.units) (by rfl) T.repr (by decide +kernel) (pa_cons (pe_xfdK (K := K) (pv 5)) pa_nil)) pa_nil))))) (pe_op op_rep (pe_lst (pa_cons (pe_lst (pa_cons pe_int (pa_cons pe_int (pa_cons pe_int (pa_cons (pe_callB (cr_rpK (K := K) hg hr.units) (by rfl) T.repr (by decide +kernel) (pa_cons (pv 2) pa_nil)) pa_nil))))) pa_nil)) pe_int) (nomark _)) (pss_one (ps_ret pe_bl)) pss_nil)
      (C8.pss_cut (ps_set (i := 4) sc_law_right.nd rfl (.inl rfl) (pe_pair M.m14 M.m14.xc.n2 (hr.mono (by decide)) (by rfl) T.m14 (pv 2) (pv 2)))
      (C8.pss_cut (ps_if (pt_cmpR (op_neD hr.units) (pe_lc (own := [("_law_e", 5)]) (g := gName 5) (tt := tYes) rfl sc_law_right.nd (pi_list (pv 4)) (blkOk_by (N := ["_law_cup_here", "_law_things", "_law_thing", "_law_at", "_law_both", "_law_e"]) (sc := defScope s_law_right) (by decide +kernel)) (fun _ _ _ _ _ => pg_name (i := 5) sc_law_right.nd rfl (Or.inl rfl)) (fun _ _ _ _ _ => pts_nil) (fun _ _ _ _ _ => (pe_op op_cat (pe_df D_law_classes (hr.mono (by decide)) (by rfl) (pa_cons (pv 5) pa_nil)) (pe_lst (pa_cons (pe_callB (cr_rpK (K := K) hg hr.units) (by rfl) T.repr (by decide +kernel) (pa_cons (pe_xfdK (K := K) (pv 5)) pa_nil)) pa_nil))))) (pe_op op_rep (pe_lst (pa_cons (pe_lst (pa_cons pe_int (pa_cons pe_int (pa_cons pe_int (pa_cons (pe_callB (cr_rpK (K := K) hg hr.units) (by rfl) T.repr (by decide +kernel) (pa_cons (pv 2) pa_nil)) pa_nil))))) pa_nil)) pe_int) (nomark _)) (pss_one (ps_ret pe_bl)) pss_nil)
      (C8.pss_cut (ps_set (i := 4) sc_law_right.nd rfl (.inl rfl) (pe_pair M.m15 M.m15.xc.n3 (hr.mono (by decide)) (by rfl) T.m15 (pv 2) (pv 2)))
      (C8.pss_cut (ps_if (pt_cmpR (op_neD hr.units) (pe_lc (own := [("_law_e", 5)]) (g := gName 5) (tt := tYes) rfl sc_law_right.nd (pi_list (pv 4)) (blkOk_by (N := ["_law_cup_here", "_law_things", "_law_thing", "_law_at", "_law_both", "_law_e"]) (sc := defScope s_law_right) (by decide +kernel)) (fun _ _ _ _ _ => pg_name (i := 5) sc_law_right.nd rfl (Or.inl rfl)) (fun _ _ _ _ _ => pts_nil) (fun _ _ _ _ _ => (pe_op op_cat (pe_df D_law_classes (hr.mono (by decide)) (by rfl) (pa_cons (pv 5) pa_nil)) (pe_lst (pa_cons (pe_callB (cr_rpK (K := K) hg hr.units) (by rfl) T.repr (by decide +kernel) (pa_cons (pe_xfdK (K := K) (pv 5)) pa_nil)) pa_nil))))) (pe_op op_rep (pe_lst (pa_cons (pe_lst (pa_cons pe_int (pa_cons pe_int (pa_cons pe_int (pa_cons (pe_callB (cr_rpK (K := K) hg hr.units) (by rfl) T.repr (by decide +kernel) (pa_cons (pv 2) pa_nil)) pa_nil))))) pa_nil)) pe_int) (nomark _)) (pss_one (ps_ret pe_bl)) pss_nil)
      (C8.pss_cut (ps_set (i := 4) sc_law_right.nd rfl (.inl rfl) (pe_pair M.m16 M.m16.xc.n2 (hr.mono (by decide)) (by rfl) T.m16 (pv 2) (pv 2)))
      (pss_one (ps_ret (pe_cmpR (op_eqD hr.units) (pe_lc (own := [("_law_e", 5)]) (g := gName 5) (tt := tYes) rfl sc_law_right.nd (pi_list (pv 4)) (blkOk_by (N := ["_law_cup_here", "_law_things", "_law_thing", "_law_at", "_law_both", "_law_e"]) (sc := defScope s_law_right) (by decide +kernel)) (fun _ _ _ _ _ => pg_name (i := 5) sc_law_right.nd rfl (Or.inl rfl)) (fun _ _ _ _ _ => pts_nil) (fun _ _ _ _ _ => (pe_op op_cat (pe_df D_law_classes (hr.mono (by decide)) (by rfl) (pa_cons (pv 5) pa_nil)) (pe_lst (pa_cons (pe_callB (cr_rpK (K := K) hg hr.units) (by rfl) T.repr (by decide +kernel) (pa_cons (pe_xfdK (K := K) (pv 5)) pa_nil)) pa_nil))))) (pe_op op_rep (pe_lst (pa_cons (pe_lst (pa_cons pe_int (pa_cons pe_int (pa_cons pe_int (pa_cons (pe_callB (cr_rpK (K := K) hg hr.units) (by rfl) T.repr (by decide +kernel) (pa_cons (pv 2) pa_nil)) pa_nil))))) pa_nil)) pe_int) (nomark _))))))))))))))), ?_⟩
    refine ⟨fun σ' H' => ∃ l xs, σ' = [some (.ref cc), some (.ref l), none, none, none, none] ∧ Same H H' ∧ H l = none ∧ H' l = some (.lst xs) ∧ xs.length = 14 ∧ ∀ v, v ∈ xs → ∀ G, But cc H' G → ∃ x, Th K G v x, ?_, ?_⟩
    · refine ⟨3, rfl, (by decide), fun p0 n0 => ⟨(by decide), fun p1 n1 => ⟨(by decide), fun p2 n2 => ⟨(by decide), fun p3 n3 => fun p4 n4 => fun p5 n5 => ⟨upd_same, [(.inr "a", .int 1)], rfl, by decide, _, _, rfl, rfl, ⟨by decide, by decide, by decide⟩, (by decide), fun p6 n6 => ⟨(by show 14 ≤ sizeLine; decide), fun l nl => ?_⟩⟩⟩⟩⟩⟩
      have a0 := new_upd (o := .tup []) n0
      have a1 := new_upd (o := .tup [.int 1, .int 2]) n1
      have a2 := new_upd (o := .lst []) n2
      have a3 := new_upd (o := .lst [.int 7]) n3
      have a4 := new_upd (o := .dK []) n4
      have a5 := new_upd2 (o := .dK []) (u := .dK (mergeK [] [(.inr "a", .int 1)])) n5
      have a6 := new_upd (o := .tup [.str "rail", .int 3]) n6
      have aL := new_upd (o := .lst [.non, .int 0, .int (-3), .bl true, .str "a", .str "", .ref p0, .ref p1, .ref p2, .ref p3, .ref p4, .ref p5, .int ((10 : Int) ^ Int.toNat 30), .ref p6]) nl
      have b6 := aL
      have b5 := a6.trans b6
      have b4 := a5.trans b5
      have b3 := a4.trans b4
      have b2 := a3.trans b3
      have b1 := a2.trans b2
      have b0 := a1.trans b1
      have f1 := a0
      have f2 := f1.trans a1
      have f3 := f2.trans a2
      have f4 := f3.trans a3
      have f5 := f4.trans a4
      have f6 := f5.trans a5
      have fL := f6.trans a6
      have h0 := b0 _ _ (upd_at (o := .tup []) n0)
      have h1 := b1 _ _ (upd_at (o := .tup [.int 1, .int 2]) n1)
      have h2 := b2 _ _ (upd_at (o := .lst []) n2)
      have h3 := b3 _ _ (upd_at (o := .lst [.int 7]) n3)
      have h4 := b4 _ _ (upd_at (o := .dK []) n4)
      have h5 := b5 _ _ (upd_at2 (o := .dK []) (u := .dK (mergeK [] [(.inr "a", .int 1)])) n5)
      have h6 := b6 _ _ (upd_at (o := .tup [.str "rail", .int 3]) n6)
      have c0 := (hc.ne n0).symm
      have c1 := (hc.ne (f1.free n1)).symm
      have c2 := (hc.ne (f2.free n2)).symm
      have c3 := (hc.ne (f3.free n3)).symm
      have c4 := (hc.ne (f4.free n4)).symm
      have c5 := (hc.ne (f5.free n5)).symm
      have c6 := (hc.ne (f6.free n6)).symm
      refine ⟨l, _, rfl, fL.trans aL, fL.free nl, upd_same, rfl, fun v hv G bG => ?_⟩
      simp only [List.mem_cons, List.not_mem_nil, or_false] at hv
      rcases hv with rfl | rfl | rfl | rfl | rfl | rfl | rfl | rfl | rfl | rfl | rfl | rfl | rfl | rfl
      · exact ⟨_, _, .dp (.non) rfl, by decide +kernel, by decide +kernel, by decide +kernel, by decide +kernel, rfl⟩
      · exact ⟨_, _, .dp (.int _) rfl, by decide +kernel, by decide +kernel, by decide +kernel, by decide +kernel, rfl⟩
      · exact ⟨_, _, .dp (.int _) rfl, by decide +kernel, by decide +kernel, by decide +kernel, by decide +kernel, rfl⟩
      · exact ⟨_, _, .dp (.bl _) rfl, by decide +kernel, by decide +kernel, by decide +kernel, by decide +kernel, rfl⟩
      · exact ⟨_, _, .dp (.str _) rfl, by decide +kernel, by decide +kernel, by decide +kernel, by decide +kernel, rfl⟩
      · exact ⟨_, _, .dp (.str _) rfl, by decide +kernel, by decide +kernel, by decide +kernel, by decide +kernel, rfl⟩
      · exact ⟨_, _, .dp (.tup (SqT.of (bG _ _ c0 h0)) .nil) rfl, by decide +kernel, by decide +kernel, by decide +kernel, by decide +kernel, rfl⟩
      · exact ⟨_, _, .dp (.tup (SqT.of (bG _ _ c1 h1)) (.cons (.int _) (.cons (.int _) .nil))) rfl, by decide +kernel, by decide +kernel, by decide +kernel, by decide +kernel, rfl⟩
      · exact ⟨_, _, .dp (.lst (SqL.of (bG _ _ c2 h2)) .nil) rfl, by decide +kernel, by decide +kernel, by decide +kernel, by decide +kernel, rfl⟩
      · exact ⟨_, _, .dp (.lst (SqL.of (bG _ _ c3 h3)) (.cons (.int _) .nil)) rfl, by decide +kernel, by decide +kernel, by decide +kernel, by decide +kernel, rfl⟩
      · exact ⟨_, _, .dk (kvs := []) (bG _ _ c4 h4), by decide +kernel, by decide +kernel, by decide +kernel, by decide +kernel, rfl⟩
      · exact ⟨_, _, .dk (kvs := [(.inr "a", 1)]) (bG _ _ c5 h5), by decide +kernel, by decide +kernel, by decide +kernel, by decide +kernel, rfl⟩
      · exact ⟨_, _, .dp (.int _) rfl, by decide +kernel, by decide +kernel, by decide +kernel, by decide +kernel, rfl⟩
      · exact ⟨_, _, .dp (.tup (SqT.of (bG _ _ c6 h6)) (.cons (.str _) (.cons (.int _) .nil))) rfl, by decide +kernel, by decide +kernel, by decide +kernel, by decide +kernel, rfl⟩
    rintro σ1 H1 ⟨l, xs, rfl, s1, nl, hl, ln, th⟩
    refine ⟨fun σ' H' => ∃ y x, σ' = [some (.ref cc), some (.ref l), some y, none, none, none] ∧ But cc H H' ∧ CupAt cc H' ∧ Th K H' y x, ?_, ?_⟩
    · refine ⟨_, rfl, _, rfl, cc, l, xs, rfl, hc.same s1, hc.ne nl, hl, by omega, by omega, fun H2 v b2 hc2 hv => ?_⟩
      obtain ⟨x, hx⟩ := th v hv H2 b2
      exact ⟨v, x, rfl, (But.of s1).trans b2, hc2, hx⟩
    rintro σ2 H2 ⟨y, x, rfl, b2, hc2, ty⟩
    refine ⟨fun σ' H' => (∃ v3 v4, σ' = [some (.ref cc), some (.ref l), some y, v3, v4, none]) ∧ Same H2 H', ?_, ?_⟩
    · refine ⟨_, rfl, y, rfl, fun H3 q xs s3 nq W lx => ?_⟩
      refine ⟨q, xs, rfl, SqL.of W.1, ?_⟩
      have th3 := ty.same (s3)
      refine for_enum (K := K) (a := q) (xs := xs) (fun i σ H' => (∃ v3 v4, σ = [some (.ref cc), some (.ref l), some y, v3, v4, none]) ∧ Same H3 H') ⟨⟨_, _, rfl⟩, Same.refl _⟩ (fun _ _ _ _ h => SqL.of (h.2 _ _ W.1)) ?_ ?_
      · rintro i v σ H4 U hi ⟨⟨v3, v4, rfl⟩, s4⟩ nU
        have li : i < 9 := by
          have := (List.getElem?_eq_some_iff.mp hi).1
          omega
        have nw := new_upd (o := .tup [.int (i : Nat), v]) nU
        have pr := ((W.2 i v hi).1.same s4).same nw
        rw [Nat.zero_add] at pr
        obtain ⟨l0, a, a', rfl, g1, x1, x2⟩ := pr
        refine ⟨U, _, rfl, SqT.of upd_same, rfl, _, _, rfl, _, _, rfl, rfl, _, rfl, l0, rfl, ⟨_, SqL.of g1⟩, fun D eD => rows_in g1 x1 x2 eD (R.xc (i) (by omega)) (R.xc (i) (by omega)).n1 (R.row (i) (by omega)) ((th3.same s4).same nw) (by rw [ans9 i li]; show 3 ≤ 30; decide) fun r1 r2 H5 s5 hD h1 h2 => ?_⟩
        rw [ans9 i li] at h1 h2
        obtain ⟨d, dq, d1, d2, d3, d4, rfl⟩ := ((th3.same s4).same nw).same s5
        refine ⟨_, rfl, _, rfl, y, d, rfl, dq, d1, d2, d3, (by show 4 ≤ sizeLine; decide), fun p np => ⟨(by show 1 ≤ sizeLine; decide), fun p' np' => ⟨p', 2, _, rfl, rfl, upd_same, by decide, by decide, (by show 2 ≤ sizeLine; decide), fun z nz => ?_⟩⟩⟩
        have u1 := new_upd (o := .lst [.int ((i : Nat)), .int 20, .int 23, .str d.shown]) np
        have u2 := new_upd (o := .lst [.ref p]) np'
        have u3 := new_upd (o := .lst [.ref p, .ref p]) nz
        have hp := (u2.trans u3) _ _ (upd_at (o := .lst [.int ((i : Nat)), .int 20, .int 23, .str d.shown]) np)
        have u := (u1.trans u2).trans u3
        refine ⟨_, _, two_dp (u _ _ hD) (u _ _ h1) (u _ _ h2), two_dp (r1 := p) (r2 := p) upd_same hp hp, two_shaped d4, two_shaped d4, ?_⟩
        exact ⟨_, rfl, ite2 (fun e => absurd e ne_no) (fun _ => ⟨⟨_, _, rfl⟩, ((s4.trans nw).trans s5).trans u⟩)⟩
      · rintro σ H4 ⟨⟨v3, v4, rfl⟩, s4⟩
        exact ⟨⟨v3, v4, rfl⟩, s3.trans s4⟩
    rintro σ3 H3' ⟨⟨v3, v4, rfl⟩, t2⟩
    replace ty := ty.same t2
    refine ⟨fun σ' H' => (∃ v3 v4, σ' = [some (.ref cc), some (.ref l), some y, v3, v4, none]) ∧ Same H3' H', ?_, ?_⟩
    · refine ⟨_, rfl, y, rfl, fun H3 q xs s3 nq W lx => ?_⟩
      refine ⟨q, xs, rfl, SqL.of W.1, ?_⟩
      have th3 := ty.same (s3)
      refine for_enum (K := K) (a := q) (xs := xs) (fun i σ H' => (∃ v3 v4, σ = [some (.ref cc), some (.ref l), some y, v3, v4, none]) ∧ Same H3 H') ⟨⟨_, _, rfl⟩, Same.refl _⟩ (fun _ _ _ _ h => SqL.of (h.2 _ _ W.1)) ?_ ?_
      · rintro i v σ H4 U hi ⟨⟨v3, v4, rfl⟩, s4⟩ nU
        have li : i < 4 := by
          have := (List.getElem?_eq_some_iff.mp hi).1
          omega
        have nw := new_upd (o := .tup [.int (i : Nat), v]) nU
        have pr := ((W.2 i v hi).1.same s4).same nw
        skip
        obtain ⟨l0, a, a', rfl, g1, x1, x2⟩ := pr
        refine ⟨U, _, rfl, SqT.of upd_same, rfl, _, _, rfl, _, _, rfl, rfl, _, rfl, l0, rfl, ⟨_, SqL.of g1⟩, fun D eD => rows_in g1 x1 x2 eD (R.xc (9 + i) (by omega)) (R.xc (9 + i) (by omega)).n2 (R.row (9 + i) (by omega)) ((th3.same s4).same nw) (by rw [ans4 i li]; show 3 ≤ 30; decide) fun r1 r2 H5 s5 hD h1 h2 => ?_⟩
        rw [ans4 i li] at h1 h2
        obtain ⟨d, dq, d1, d2, d3, d4, rfl⟩ := ((th3.same s4).same nw).same s5
        refine ⟨_, rfl, _, _, rfl, rfl, _, rfl, y, d, rfl, dq, d1, d2, d3, (by show 4 ≤ sizeLine; decide), fun p np => ⟨(by show 1 ≤ sizeLine; decide), fun p' np' => ⟨p', 2, _, rfl, rfl, upd_same, by decide, by decide, (by show 2 ≤ sizeLine; decide), fun z nz => ?_⟩⟩⟩
        have u1 := new_upd (o := .lst [.int (9 + (i : Nat)), .int 20, .int 23, .str d.shown]) np
        have u2 := new_upd (o := .lst [.ref p]) np'
        have u3 := new_upd (o := .lst [.ref p, .ref p]) nz
        have hp := (u2.trans u3) _ _ (upd_at (o := .lst [.int (9 + (i : Nat)), .int 20, .int 23, .str d.shown]) np)
        have u := (u1.trans u2).trans u3
        refine ⟨_, _, two_dp (u _ _ hD) (u _ _ h1) (u _ _ h2), two_dp (r1 := p) (r2 := p) upd_same hp hp, two_shaped d4, two_shaped d4, ?_⟩
        exact ⟨_, rfl, ite2 (fun e => absurd e ne_no) (fun _ => ⟨⟨_, _, rfl⟩, ((s4.trans nw).trans s5).trans u⟩)⟩
      · rintro σ H4 ⟨⟨v3, v4, rfl⟩, s4⟩
        exact ⟨⟨v3, v4, rfl⟩, s3.trans s4⟩
    rintro σ4 H4' ⟨⟨w3, w4, rfl⟩, t3⟩
    replace ty := ty.same t3
    have bz := (b2.trans (But.of t2)).trans (But.of t3)
    clear t2 t3
    refine ⟨fun σ' H' => ∃ v, σ' = [some (.ref cc), some (.ref l), some y, w3, some v, none] ∧ Same H4' H' ∧ Pr H' v (c 13) "given" y, ?_, ?_⟩
    · exact ⟨y, rfl, fun v H' s' p' _ => ⟨v, rfl, s', p'⟩⟩
    rintro σ5 G13 ⟨v, rfl, t13, pr⟩
    replace ty := ty.same t13
    replace bz := bz.trans (But.of t13)
    refine ⟨fun σ' H' => σ' = [some (.ref cc), some (.ref l), some y, w3, some v, none] ∧ Same G13 H', ?_, ?_⟩
    · obtain ⟨l0, a, a', rfl, g1, x1, x2⟩ := pr
      refine ⟨_, rfl, l0, rfl, ⟨_, SqL.of g1⟩, fun D eD => rows_in g1 x1 x2 eD (R.xc 13 (by decide)) (R.xc 13 (by decide)).n1 (R.row 13 (by decide)) ty (by rw [ans13]; decide) fun r1 r2 H5 s5 hD h1 h2 => ?_⟩
      rw [ans13] at h1 h2
      obtain ⟨d, dq, d1, d2, d3, d4, rfl⟩ := ty.same s5
      refine ⟨_, rfl, y, d, rfl, dq, d1, d2, d3, (by show 4 ≤ sizeLine; decide), fun p np => ⟨(by show 1 ≤ sizeLine; decide), fun p' np' => ⟨p', 2, _, rfl, rfl, upd_same, by decide, by decide, (by show 2 ≤ sizeLine; decide), fun z nz => ?_⟩⟩⟩
      have u1 := new_upd (o := .lst [.int (13), .int 21, .int 24, .str d.shown]) np
      have u2 := new_upd (o := .lst [.ref p]) np'
      have u3 := new_upd (o := .lst [.ref p, .ref p]) nz
      have hp := (u2.trans u3) _ _ (upd_at (o := .lst [.int (13), .int 21, .int 24, .str d.shown]) np)
      have u := (u1.trans u2).trans u3
      refine ⟨_, _, two_dp (u _ _ hD) (u _ _ h1) (u _ _ h2), two_dp (r1 := p) (r2 := p) upd_same hp hp, two_shaped d4, two_shaped d4, ?_⟩
      exact ⟨_, rfl, ite2 (fun e => absurd e ne_no) (fun _ => ⟨rfl, s5.trans u⟩)⟩
    rintro σ5 N13 ⟨rfl, t13⟩
    replace ty := ty.same t13
    replace bz := bz.trans (But.of t13)
    clear pr
    refine ⟨fun σ' H' => ∃ v, σ' = [some (.ref cc), some (.ref l), some y, w3, some v, none] ∧ Same N13 H' ∧ Pr H' v (c 14) "index" y, ?_, ?_⟩
    · exact ⟨y, rfl, fun v H' s' p' _ => ⟨v, rfl, s', p'⟩⟩
    rintro σ5 G14 ⟨v, rfl, t14, pr⟩
    replace ty := ty.same t14
    replace bz := bz.trans (But.of t14)
    refine ⟨fun σ' H' => σ' = [some (.ref cc), some (.ref l), some y, w3, some v, none] ∧ Same G14 H', ?_, ?_⟩
    · obtain ⟨l0, a, a', rfl, g1, x1, x2⟩ := pr
      refine ⟨_, rfl, l0, rfl, ⟨_, SqL.of g1⟩, fun D eD => rows_in g1 x1 x2 eD (R.xc 14 (by decide)) (R.xc 14 (by decide)).n2 (R.row 14 (by decide)) ty (by rw [ans14]; decide) fun r1 r2 H5 s5 hD h1 h2 => ?_⟩
      rw [ans14] at h1 h2
      obtain ⟨d, dq, d1, d2, d3, d4, rfl⟩ := ty.same s5
      refine ⟨_, rfl, y, d, rfl, dq, d1, d2, d3, (by show 4 ≤ sizeLine; decide), fun p np => ⟨(by show 1 ≤ sizeLine; decide), fun p' np' => ⟨p', 2, _, rfl, rfl, upd_same, by decide, by decide, (by show 2 ≤ sizeLine; decide), fun z nz => ?_⟩⟩⟩
      have u1 := new_upd (o := .lst [.int (14), .int 21, .int 24, .str d.shown]) np
      have u2 := new_upd (o := .lst [.ref p]) np'
      have u3 := new_upd (o := .lst [.ref p, .ref p]) nz
      have hp := (u2.trans u3) _ _ (upd_at (o := .lst [.int (14), .int 21, .int 24, .str d.shown]) np)
      have u := (u1.trans u2).trans u3
      refine ⟨_, _, two_dp (u _ _ hD) (u _ _ h1) (u _ _ h2), two_dp (r1 := p) (r2 := p) upd_same hp hp, two_shaped d4, two_shaped d4, ?_⟩
      exact ⟨_, rfl, ite2 (fun e => absurd e ne_no) (fun _ => ⟨rfl, s5.trans u⟩)⟩
    rintro σ5 N14 ⟨rfl, t14⟩
    replace ty := ty.same t14
    replace bz := bz.trans (But.of t14)
    clear pr
    refine ⟨fun σ' H' => ∃ v, σ' = [some (.ref cc), some (.ref l), some y, w3, some v, none] ∧ Same N14 H' ∧ Pr H' v (c 15) "most" y, ?_, ?_⟩
    · exact ⟨y, rfl, fun v H' s' p' _ => ⟨v, rfl, s', p'⟩⟩
    rintro σ5 G15 ⟨v, rfl, t15, pr⟩
    replace ty := ty.same t15
    replace bz := bz.trans (But.of t15)
    refine ⟨fun σ' H' => σ' = [some (.ref cc), some (.ref l), some y, w3, some v, none] ∧ Same G15 H', ?_, ?_⟩
    · obtain ⟨l0, a, a', rfl, g1, x1, x2⟩ := pr
      refine ⟨_, rfl, l0, rfl, ⟨_, SqL.of g1⟩, fun D eD => rows_in g1 x1 x2 eD (R.xc 15 (by decide)) (R.xc 15 (by decide)).n3 (R.row 15 (by decide)) ty (by rw [ans15]; decide) fun r1 r2 H5 s5 hD h1 h2 => ?_⟩
      rw [ans15] at h1 h2
      obtain ⟨d, dq, d1, d2, d3, d4, rfl⟩ := ty.same s5
      refine ⟨_, rfl, y, d, rfl, dq, d1, d2, d3, (by show 4 ≤ sizeLine; decide), fun p np => ⟨(by show 1 ≤ sizeLine; decide), fun p' np' => ⟨p', 2, _, rfl, rfl, upd_same, by decide, by decide, (by show 2 ≤ sizeLine; decide), fun z nz => ?_⟩⟩⟩
      have u1 := new_upd (o := .lst [.int (15), .int 22, .int 25, .str d.shown]) np
      have u2 := new_upd (o := .lst [.ref p]) np'
      have u3 := new_upd (o := .lst [.ref p, .ref p]) nz
      have hp := (u2.trans u3) _ _ (upd_at (o := .lst [.int (15), .int 22, .int 25, .str d.shown]) np)
      have u := (u1.trans u2).trans u3
      refine ⟨_, _, two_dp (u _ _ hD) (u _ _ h1) (u _ _ h2), two_dp (r1 := p) (r2 := p) upd_same hp hp, two_shaped d4, two_shaped d4, ?_⟩
      exact ⟨_, rfl, ite2 (fun e => absurd e ne_no) (fun _ => ⟨rfl, s5.trans u⟩)⟩
    rintro σ5 N15 ⟨rfl, t15⟩
    replace ty := ty.same t15
    replace bz := bz.trans (But.of t15)
    clear pr
    refine ⟨fun σ' H' => ∃ v, σ' = [some (.ref cc), some (.ref l), some y, w3, some v, none] ∧ Same N15 H' ∧ Pr H' v (c 16) "index" y, ?_, ?_⟩
    · exact ⟨y, rfl, fun v H' s' p' _ => ⟨v, rfl, s', p'⟩⟩
    rintro σ5 G16 ⟨v, rfl, t16, pr⟩
    replace ty := ty.same t16
    replace bz := bz.trans (But.of t16)
    obtain ⟨l0, a, a', rfl, g1, x1, x2⟩ := pr
    refine ⟨_, rfl, l0, rfl, ⟨_, SqL.of g1⟩, fun D eD => rows_in g1 x1 x2 eD (R.xc 16 (by decide)) (R.xc 16 (by decide)).n2 (R.row 16 (by decide)) ty (by rw [ans16]; decide) fun r1 r2 H5 s5 hD h1 h2 => ?_⟩
    rw [ans16] at h1 h2
    obtain ⟨d, dq, d1, d2, d3, d4, rfl⟩ := ty.same s5
    refine ⟨_, rfl, y, d, rfl, dq, d1, d2, d3, (by show 4 ≤ sizeLine; decide), fun p np => ⟨(by show 1 ≤ sizeLine; decide), fun p' np' => ⟨p', 2, _, rfl, rfl, upd_same, by decide, by decide, (by show 2 ≤ sizeLine; decide), fun z nz => ?_⟩⟩⟩
    have u1 := new_upd (o := .lst [.int (16), .int 22, .int 25, .str d.shown]) np
    have u2 := new_upd (o := .lst [.ref p]) np'
    have u3 := new_upd (o := .lst [.ref p, .ref p]) nz
    have hp := (u2.trans u3) _ _ (upd_at (o := .lst [.int (16), .int 22, .int 25, .str d.shown]) np)
    have u := (u1.trans u2).trans u3
    refine ⟨_, _, two_dp (u _ _ hD) (u _ _ h1) (u _ _ h2), two_dp (r1 := p) (r2 := p) upd_same hp hp, two_shaped d4, two_shaped d4, ?_⟩
    rw [two_same]
    exact k _ (bz.trans (But.of (s5.trans u)))
end
end RL

set_option maxHeartbeats 1000000
namespace RL
open PySem L2
def spRight : Sp := fun vs H Q _ => ∃ c : Addr, vs = [.ref c] ∧ CupAt c H ∧ ∀ H', But c H H' → Q (.bl true) H'
def spLaw (K : PySem.W.Frag) : Sp := fun vs H Q _ => ∃ (a : Addr) (ns : List Int), vs = [.ref a] ∧ SqL K H a (ns.map V.int) ∧ ns.length ≤ 63 ∧ ∀ H', Q (.bl true) H'
theorem seq_but {K : PySem.W.Frag} {H H' : Hp} {D a : Addr} {xs : List V} (h : SqL K H a xs) (n : H D = none) (b : But D H H') : SqL K H' a xs := by
  rcases h with (h | ⟨o, h⟩) | h
  · exact .inl (.inl (b _ _ (ne_of_none h n) h))
  · exact .inl (.inr ⟨o, b _ _ (ne_of_none h n) h⟩)
  · exact .inr h
theorem ne_selfV (v : V) : ¬ (!decide (v = v)) = true := by
  rw [decide_eq_true rfl]
  decide
theorem a17 : ans (tb 17) = [.int 17, .int 22, .int 25] := by decide +kernel
theorem a18 : ans (tb 18) = [.int 18, .int 22, .int 25] := by decide +kernel
theorem a19 : ans (tb 19) = [.int 20, .int 23] := by decide +kernel
theorem a20 : ans (tb 20) = [.int 21, .int 24] := by decide +kernel
theorem a21 : ans (tb 21) = [.int 22, .int 25] := by decide +kernel
section
variable {P : Program} {w : World} {K : PySem.W.Frag} {mg : Str → Option Value} {base : Heap} {c : Nat → Addr} {aO : Addr} {tk : Nat → Tok}
abbrev s_law : Stmt := top 39
theorem sc_law : FnScope ["_law_script", "_law_told", "_law_bare", "_law_e", "_law_spot"] ["_law_script"] (defScope s_law) := ⟨rfl, rfl, rfl, by decide +kernel, rfl, by decide +kernel, by decide +kernel⟩

set_option maxHeartbeats 2000000 in
theorem ok_law {f : Addr} {fd : FuncData} (F : Fun K "law" "law" s_law f fd) (T : Tx K mg c aO tk) (M : Ms P w K mg base c) (R : Rs K c) (D_law_classes : Df P w K mg base 1 "_law_classes" ["_law_e"] (spClasses K c))
    (D_law_cup : Df P w K mg base 1 "_law_cup" ["_law_script", "_law_spot"] (spCup K)) (D_law_right : DfG P w K mg base 5 "_law_right" ["_law_cup_here"] spRight) : FnG P w K mg base 6 f fd ["_law_script"] (spLaw K) := by
  refine okG F sc_law (fun vs H Q E h => ?_) (fun cdv A outer s H vs Q E hg hr h => ?_)
  · obtain ⟨a, ns, rfl, _⟩ := h
    rfl
  · obtain ⟨a, ns, rfl, hS, hlen, k⟩ := h
    refine ⟨_, (C8.pss_cut (ps_set (i := 1) sc_law.nd rfl (.inl rfl) (pe_lst (pa_cons (pe_glob (v := .int 12) rfl T.k0 ⟨_, rfl⟩) (pa_cons (pe_glob (v := .int 4) rfl T.k1 ⟨_, rfl⟩) (pa_cons (pe_glob (v := .int 8) rfl T.k2 ⟨_, rfl⟩) (pa_cons (pe_glob (v := .int 4) rfl T.k3 ⟨_, rfl⟩) (pa_cons (pe_glob (v := .int 100) rfl T.k4 ⟨_, rfl⟩) (pa_cons (pe_glob (v := .int 1000) rfl T.k5 ⟨_, rfl⟩) (pa_cons (pe_glob (v := .int 1000000000000) rfl T.k6 ⟨_, rfl⟩) (pa_cons (pe_glob (v := .ref aO) rfl T.kO rfl) pa_nil))))))))))
      (C8.pss_cut (ps_if (pt_cmpR op_ne (pe_callB (cr_rpK (K := K) hg hr.units) (by rfl) T.repr (by decide +kernel) (pa_cons (pv 1) pa_nil)) (pe_callB (cr_rpK (K := K) hg hr.units) (by rfl) T.repr (by decide +kernel) (pa_cons (pe_lst (pa_cons pe_int (pa_cons pe_int (pa_cons pe_int (pa_cons pe_int (pa_cons pe_int (pa_cons pe_int (pa_cons (pe_op op_pow pe_int pe_int) (pa_cons (pe_tup (pa_cons pe_int (pa_cons pe_int pa_nil))) pa_nil))))))))) pa_nil)) (nomark _)) (pss_one (ps_ret pe_bl)) pss_nil)
      (C8.pss_cut (ps_set (i := 2) sc_law.nd rfl (.inl rfl) (pe_lst (pa_cons (pe_mk0 M.m17 (hr.mono (by decide)) (by rfl) T.m17) (pa_cons (pe_mk0 M.m18 (hr.mono (by decide)) (by rfl) T.m18) (pa_cons (pe_mk0 M.m19 (hr.mono (by decide)) (by rfl) T.m19) (pa_cons (pe_mk0 M.m20 (hr.mono (by decide)) (by rfl) T.m20) (pa_cons (pe_mk0 M.m21 (hr.mono (by decide)) (by rfl) T.m21) pa_nil)))))))
      (C8.pss_cut (ps_if (pt_cmpR (op_neD hr.units) (pe_lc (own := [("_law_e", 3)]) (g := gName 3) (tt := tYes) rfl sc_law.nd (pi_list (pv 2)) (blkOk_by (N := ["_law_script", "_law_told", "_law_bare", "_law_e", "_law_spot"]) (sc := defScope s_law) (by decide +kernel)) (fun _ _ _ _ _ => pg_name (i := 3) sc_law.nd rfl (Or.inl rfl)) (fun _ _ _ _ _ => pts_nil) (fun _ _ _ _ _ => (pe_df D_law_classes (hr.mono (by decide)) (by rfl) (pa_cons (pv 3) pa_nil)))) (pe_lst (pa_cons (pe_lst (pa_cons pe_int (pa_cons pe_int (pa_cons pe_int pa_nil)))) (pa_cons (pe_lst (pa_cons pe_int (pa_cons pe_int (pa_cons pe_int pa_nil)))) (pa_cons (pe_lst (pa_cons pe_int (pa_cons pe_int pa_nil))) (pa_cons (pe_lst (pa_cons pe_int (pa_cons pe_int pa_nil))) (pa_cons (pe_lst (pa_cons pe_int (pa_cons pe_int pa_nil))) pa_nil)))))) (nomark _)) (pss_one (ps_ret pe_bl)) pss_nil)
      (pss_one (ps_ret (pe_callB (cr_all rfl) (by rfl) T.all (by decide +kernel) (pa_cons (pe_lc (own := [("_law_spot", 4)]) (g := gName 4) (tt := tYes) rfl sc_law.nd (pi_range1 rfl T.range (pa_cons (pe_callB (call_max2 rfl) (by rfl) T.max (by decide +kernel) (pa_cons pe_int (pa_cons (pe_callB (call_min2 rfl) (by rfl) T.min (by decide +kernel) (pa_cons (pe_callB call_len_seq (by rfl) T.len (by decide +kernel) (pa_cons (pv 0) pa_nil)) (pa_cons pe_int pa_nil))) pa_nil))) pa_nil)) (blkOk_by (N := ["_law_script", "_law_told", "_law_bare", "_law_e", "_law_spot"]) (sc := defScope s_law) (by decide +kernel)) (fun _ _ _ _ _ => pg_name (i := 4) sc_law.nd rfl (Or.inl rfl)) (fun _ _ _ _ _ => pts_nil) (fun _ _ _ _ _ => (pe_dfG D_law_right hg (hr.mono (by decide)) (by rfl) (pa_cons (pe_df D_law_cup (hr.mono (by decide)) (by rfl) (pa_cons (pv 0) (pa_cons (pv 4) pa_nil))) pa_nil)))) pa_nil)))))))), ?_⟩
    refine ⟨fun σ' H' => ∃ t, σ' = [some (.ref a), some (.ref t), none, none, none] ∧ Same H H' ∧ H' t = some (.lst [.int 12, .int 4, .int 8, .int 4, .int 100, .int 1000, .int 1000000000000, .ref aO]), ?_, ?_⟩
    · refine ⟨(by show 8 ≤ sizeLine; decide), fun t nt => ?_⟩
      exact ⟨t, rfl, new_upd nt, upd_same⟩
    rintro σ1 H1 ⟨t, rfl, s1, ht⟩
    refine ⟨fun σ' H' => σ' = [some (.ref a), some (.ref t), none, none, none] ∧ Same H1 H', ?_, ?_⟩
    · refine ⟨_, rfl, .ref t, (.list [.int 12, .int 4, .int 8, .int 4, .int 100, .int 1000, .int 1000000000000, .tuple [.int 1, .int 0]]), rfl, .dp (.lst (SqL.of ht) (.cons (.int 12) (.cons (.int 4) (.cons (.int 8) (.cons (.int 4) (.cons (.int 100) (.cons (.int 1000) (.cons (.int 1000000000000) (.cons (.tup (T.sO _) (.cons (.int 1) (.cons (.int 0) .nil))) .nil))))))))) rfl, by decide +kernel, by decide +kernel, by decide +kernel, ?_⟩
      refine ⟨_, _, rfl, rfl, ⟨by decide, by decide, by decide⟩, (by decide), fun p np => ⟨(by show 8 ≤ sizeLine; decide), fun l nl => ?_⟩⟩
      have hp := new_upd (o := .lst [.int 12, .int 4, .int 8, .int 4, .int 100, .int 1000, .int ((10 : Int) ^ Int.toNat 12), .ref p]) nl _ _ (upd_at (o := .tup [.int 1, .int 0]) np)
      have hs := (new_upd (o := .tup [.int 1, .int 0]) np).trans (new_upd (o := .lst [.int 12, .int 4, .int 8, .int 4, .int 100, .int 1000, .int ((10 : Int) ^ Int.toNat 12), .ref p]) nl)
      refine ⟨.ref l, (.list [.int 12, .int 4, .int 8, .int 4, .int 100, .int 1000, .int 1000000000000, .tuple [.int 1, .int 0]]), rfl, .dp (.lst (SqL.of upd_same) (.cons (.int 12) (.cons (.int 4) (.cons (.int 8) (.cons (.int 4) (.cons (.int 100) (.cons (.int 1000) (.cons (.int 1000000000000) (.cons (.tup (SqT.of hp) (.cons (.int 1) (.cons (.int 0) .nil))) .nil))))))))) rfl, by decide +kernel, by decide +kernel, by decide +kernel, rfl, _, rfl, ite2 (fun e => absurd e (ne_selfV _)) (fun _ => ?_)⟩
      exact ⟨rfl, hs⟩
    rintro σ2 H2 ⟨rfl, s2⟩
    refine ⟨fun σ' H' => ∃ q a0 a1 a2 a3 a4, σ' = [some (.ref a), some (.ref t), some (.ref q), none, none] ∧ Same H2 H' ∧ H' q = some (.lst [.ref a0, .ref a1, .ref a2, .ref a3, .ref a4]) ∧ Exo H' a0 (c 17) ∧ Exo H' a1 (c 18) ∧ Exo H' a2 (c 19) ∧ Exo H' a3 (c 20) ∧ Exo H' a4 (c 21), ?_, ?_⟩
    · refine fun a0 n0 => fun a1 n1 => fun a2 n2 => fun a3 n3 => fun a4 n4 => ⟨(by show 5 ≤ sizeLine; decide), fun q nq => ?_⟩
      have b0 := new_upd (o := exo a0 (c 17) none) n0
      have b1 := new_upd (o := exo a1 (c 18) none) n1
      have b2 := new_upd (o := exo a2 (c 19) none) n2
      have b3 := new_upd (o := exo a3 (c 20) none) n3
      have b4 := new_upd (o := exo a4 (c 21) none) n4
      have bq := new_upd (o := .lst [.ref a0, .ref a1, .ref a2, .ref a3, .ref a4]) nq
      have h4 := bq _ _ (upd_at (o := exo a4 (c 21) none) n4)
      have h3 := (b4.trans bq) _ _ (upd_at (o := exo a3 (c 20) none) n3)
      have h2 := (b3.trans (b4.trans bq)) _ _ (upd_at (o := exo a2 (c 19) none) n2)
      have h1 := (b2.trans (b3.trans (b4.trans bq))) _ _ (upd_at (o := exo a1 (c 18) none) n1)
      have h0 := (b1.trans (b2.trans (b3.trans (b4.trans bq)))) _ _ (upd_at (o := exo a0 (c 17) none) n0)
      exact ⟨q, a0, a1, a2, a3, a4, rfl, b0.trans (b1.trans (b2.trans (b3.trans (b4.trans bq)))), upd_same, .inl h0, .inl h1, .inl h2, .inl h3, .inl h4⟩
    rintro σ3 H3 ⟨q, a0, a1, a2, a3, a4, rfl, s3, hq, e0, e1, e2, e3, e4⟩
    refine ⟨fun σ' H' => σ' = [some (.ref a), some (.ref t), some (.ref q), none, none] ∧ Same H3 H', ?_, ?_⟩
    · refine ⟨_, rfl, q, rfl, ⟨_, SqL.of hq⟩, fun D hD => ?_⟩
      refine lc_list (K := K) (a := q) (xs := [.ref a0, .ref a1, .ref a2, .ref a3, .ref a4]) (fun i H' => But D H3 H' ∧ ∃ rs : List Addr, H' D = some (.lst (rs.map V.ref)) ∧ rs.length = i ∧ ∀ j r, rs[j]? = some r → r ≠ D ∧ H' r = some (.lst (ans (tb (17 + j))))) ⟨But.upd, [], upd_same, rfl, fun j r hr => absurd hr (by simp)⟩ (fun i H' _ p => SqL.of (p.1 _ _ (ne_of_none hq hD) hq)) ?_ ?_
      · rintro i v H5 hi ⟨bD, rs, hDs, ln, hrs⟩
        have li : i < 5 := (List.getElem?_eq_some_iff.mp hi).1
        have sD : Same H3 H5 := fun y o e => bD _ _ (ne_of_none e hD) e
        obtain ⟨e, rfl, xe⟩ : ∃ e, v = .ref e ∧ Exo H5 e (c (17 + i)) := by
          match i, hi with
          | 0, hi => cases hi; exact ⟨a0, rfl, e0.same sD⟩
          | 1, hi => cases hi; exact ⟨a1, rfl, e1.same sD⟩
          | 2, hi => cases hi; exact ⟨a2, rfl, e2.same sD⟩
          | 3, hi => cases hi; exact ⟨a3, rfl, e3.same sD⟩
          | 4, hi => cases hi; exact ⟨a4, rfl, e4.same sD⟩
        refine ⟨rfl, ?_⟩
        unfold tYes
        refine iteT ?_
        refine ⟨_, rfl, e, c (17 + i), tb (17 + i), rfl, R.xc _ (by omega), xe, R.row _ (by omega), fun H6 r s6 nr hr => ?_⟩
        have nrD : r ≠ D := (ne_of_none hDs nr).symm
        refine ⟨_, s6 _ _ hDs, small1000 (by rw [List.length_map, ln]; omega), ?_, rs ++ [r], ?_, by rw [List.length_append, ln]; rfl, fun j z hz => ?_⟩
        · intro u o nu eu
          rw [upd_ne nu]
          exact s6 _ _ (bD _ _ nu eu)
        · rw [upd_same, List.map_append]
          rfl
        · rw [List.getElem?_append] at hz
          split at hz
          · exact ⟨(hrs j z hz).1, by rw [upd_ne (hrs j z hz).1]; exact s6 _ _ (hrs j z hz).2⟩
          · rename_i hj
            cases hk : j - rs.length with
            | zero =>
              rw [hk] at hz
              cases hz
              have ej : j = i := by omega
              rw [ej]
              exact ⟨nrD, by rw [upd_ne nrD]; exact hr⟩
            | succ n =>
              rw [hk] at hz
              cases hz
      · rintro H5 ⟨bD, rs, hDs, ln, hrs⟩
        match rs, ln, hDs, hrs with
        | [r0, r1, r2, r3, r4], _, hDs, hrs =>
          have g0 := (hrs 0 r0 rfl).2
          have g1 := (hrs 1 r1 rfl).2
          have g2 := (hrs 2 r2 rfl).2
          have g3 := (hrs 3 r3 rfl).2
          have g4 := (hrs 4 r4 rfl).2
          rw [show 17 + 0 = 17 from rfl, a17] at g0
          rw [show 17 + 1 = 18 from rfl, a18] at g1
          rw [show 17 + 2 = 19 from rfl, a19] at g2
          rw [show 17 + 3 = 20 from rfl, a20] at g3
          rw [show 17 + 4 = 21 from rfl, a21] at g4
          have sD : Same H3 H5 := fun y o e => bD _ _ (ne_of_none e hD) e
          refine ⟨(by decide), fun p0 n0 => ⟨(by decide), fun p1 n1 => ⟨(by decide), fun p2 n2 => ⟨(by decide), fun p3 n3 => ⟨(by decide), fun p4 n4 => ⟨(by show 5 ≤ sizeLine; decide), fun z nz => ?_⟩⟩⟩⟩⟩⟩
          have b0 := new_upd (o := .lst [.int 17, .int 22, .int 25]) n0
          have b1 := new_upd (o := .lst [.int 18, .int 22, .int 25]) n1
          have b2 := new_upd (o := .lst [.int 20, .int 23]) n2
          have b3 := new_upd (o := .lst [.int 21, .int 24]) n3
          have b4 := new_upd (o := .lst [.int 22, .int 25]) n4
          have bz := new_upd (o := .lst [.ref p0, .ref p1, .ref p2, .ref p3, .ref p4]) nz
          have f4 := (bz) _ _ (upd_at (o := .lst [.int 22, .int 25]) n4)
          have f3 := ((b4.trans bz)) _ _ (upd_at (o := .lst [.int 21, .int 24]) n3)
          have f2 := ((b3.trans (b4.trans bz))) _ _ (upd_at (o := .lst [.int 20, .int 23]) n2)
          have f1 := ((b2.trans (b3.trans (b4.trans bz)))) _ _ (upd_at (o := .lst [.int 18, .int 22, .int 25]) n1)
          have f0 := ((b1.trans (b2.trans (b3.trans (b4.trans bz))))) _ _ (upd_at (o := .lst [.int 17, .int 22, .int 25]) n0)
          have u := (b0.trans (b1.trans (b2.trans (b3.trans (b4.trans bz)))))
          refine ⟨_, _, .lst (SqL.of (u _ _ hDs)) (.cons (.lst (SqL.of (u _ _ g0)) (.cons (.int _) (.cons (.int _) (.cons (.int _) .nil)))) (.cons (.lst (SqL.of (u _ _ g1)) (.cons (.int _) (.cons (.int _) (.cons (.int _) .nil)))) (.cons (.lst (SqL.of (u _ _ g2)) (.cons (.int _) (.cons (.int _) .nil))) (.cons (.lst (SqL.of (u _ _ g3)) (.cons (.int _) (.cons (.int _) .nil))) (.cons (.lst (SqL.of (u _ _ g4)) (.cons (.int _) (.cons (.int _) .nil))) .nil))))), .lst (SqL.of upd_same) (.cons (.lst (SqL.of f0) (.cons (.int _) (.cons (.int _) (.cons (.int _) .nil)))) (.cons (.lst (SqL.of f1) (.cons (.int _) (.cons (.int _) (.cons (.int _) .nil)))) (.cons (.lst (SqL.of f2) (.cons (.int _) (.cons (.int _) .nil))) (.cons (.lst (SqL.of f3) (.cons (.int _) (.cons (.int _) .nil))) (.cons (.lst (SqL.of f4) (.cons (.int _) (.cons (.int _) .nil))) .nil))))), (by decide +kernel), (by decide +kernel), _, rfl, ite2 (fun e => absurd e (by decide +kernel)) (fun _ => ?_)⟩
          exact ⟨rfl, sD.trans u⟩
    rintro σ4 H4 ⟨rfl, s4⟩
    have hSg := ((s1.trans s2).trans (s3.trans s4)).seq hS
    refine ⟨_, rfl, a, _, rfl, .inl hSg, _, _, rfl, _, _, rfl, _, rfl, ?_, ?_, fun D hD => ?_⟩
    · split <;> split <;> omega
    · have : (List.map V.int ns).length = ns.length := List.length_map ..
      split <;> split <;> omega
    · refine lc_range (lo := 0) (fun i H' => But D _ H' ∧ H' D = some (.lst (List.replicate i (.bl true)))) ⟨But.upd, upd_same⟩ ?_ ?_
      · rintro i H1' hi ⟨bD, hDi⟩
        have hi63 : i ≤ 100 := by
          have : (List.map V.int ns).length = ns.length := List.length_map ..
          split at hi <;> split at hi <;> omega
        refine ⟨rfl, ?_⟩
        unfold tYes
        refine iteT ?_
        refine ⟨_, rfl, _, rfl, a, ns, i, ?_, seq_but hSg hD bD, hi63, hlen, fun H2' c sc nc hc => ?_⟩
        · show [V.ref a, V.int (0 + (i : Int))] = _
          rw [Int.zero_add]
        refine ⟨c, rfl, hc, fun H3' b3 => ?_⟩
        have nDc : D ≠ c := ne_of_none hDi nc
        refine ⟨_, b3 _ _ nDc (sc _ _ hDi), ?_, ?_, ?_⟩
        · rw [List.length_replicate]
          exact small1000 (by omega)
        · intro y o ny e
          rw [upd_ne ny]
          have hy1 := bD _ _ ny e
          exact b3 _ _ (ne_of_none hy1 nc) (sc _ _ hy1)
        · rw [upd_same, List.replicate_succ']
      · rintro H1' ⟨bD, hDn⟩
        refine ⟨D, List.replicate _ true, rfl, SqL.of (by rw [List.map_replicate]; exact hDn), ?_⟩
        have ea : ∀ n : Nat, (List.replicate n true).all id = true := fun n => by
          rw [List.all_eq_true]
          intro z hz
          rw [List.eq_of_mem_replicate hz]
          rfl
        rw [ea]
        exact k _
end
end RL

namespace RL
open PySem L2
def cF (cs : List Addr) (i : Nat) : Addr := cs.getD i 0
def rowB (K : PySem.W.Frag) (cs : List Addr) (i : Nat) : Bool := (List.range 25).all fun j => decide (PySem.W.kitOne K (.ref (cF cs i)) (tv (cF cs) j) = some (tb i j))
theorem rowB_ok {K : PySem.W.Frag} {cs : List Addr} {i : Nat} (h : rowB K cs i = true) : IsRow K (cF cs) (cF cs i) (tb i) := fun j hj => of_decide_eq_true (List.all_eq_true.mp h j (List.mem_range.mpr hj))
theorem below22 {Z : Nat → Prop} (h0 : Z 0) (h1 : Z 1) (h2 : Z 2) (h3 : Z 3) (h4 : Z 4) (h5 : Z 5) (h6 : Z 6) (h7 : Z 7) (h8 : Z 8) (h9 : Z 9) (h10 : Z 10) (h11 : Z 11) (h12 : Z 12) (h13 : Z 13) (h14 : Z 14) (h15 : Z 15) (h16 : Z 16) (h17 : Z 17) (h18 : Z 18) (h19 : Z 19) (h20 : Z 20) (h21 : Z 21) : ∀ i, i < 22 → Z i
  | 0, _ => h0
  | 1, _ => h1
  | 2, _ => h2
  | 3, _ => h3
  | 4, _ => h4
  | 5, _ => h5
  | 6, _ => h6
  | 7, _ => h7
  | 8, _ => h8
  | 9, _ => h9
  | 10, _ => h10
  | 11, _ => h11
  | 12, _ => h12
  | 13, _ => h13
  | 14, _ => h14
  | 15, _ => h15
  | 16, _ => h16
  | 17, _ => h17
  | 18, _ => h18
  | 19, _ => h19
  | 20, _ => h20
  | 21, _ => h21
  | n + 22, h => absurd h (by omega)
set_option maxHeartbeats 8000000 in
theorem all_mk {l : PySem.W.OpenLaw} {w : World} {K : PySem.W.Frag} {h : Heap} {mg : Str → Option Value} (X : K.In h) (G : h.Ns mainGlobals mg) {fa aO : Addr} {C0 C1 C2 C3 C4 C5 C6 C7 C8 C9 C10 C11 C12 C13 C14 C15 C16 C17 C18 C19 C20 C21 f_law_sip f_law_pick f_law_cup f_law_classes f_law_given f_law_indexed f_law_right f_law f_NotAPattern_init f_NotARun_init f_InvalidResistance_init f_InvalidCount_init f_InvalidNumber_init f_InvalidText_init f_InvalidName_init f_InvalidClaim_init f_InvalidIndex_init f_InvalidPieces_init f_InvalidKinds_init f_InvalidStretches_init f_InvalidDeeds_init f_UnknownName_init f_InUse_init f_TooMany_init f_Broken_init f_WrongValue_init f_WrongName_init f_NoAnswer_init : Addr} {odO : Option Addr} {nO : Nat} {slO : Array (Option Value)} {t0 t1 t2 t3 t4 t5 t6 t7 t8 : Tok}
    {od_law_sip an_law_sip od_law_pick an_law_pick od_law_cup an_law_cup od_law_classes an_law_classes od_law_given an_law_given od_law_indexed an_law_indexed od_law_right an_law_right od_law an_law od_NotAPattern_init an_NotAPattern_init od_NotARun_init an_NotARun_init od_InvalidResistance_init an_InvalidResistance_init od_InvalidCount_init an_InvalidCount_init od_InvalidNumber_init an_InvalidNumber_init od_InvalidText_init an_InvalidText_init od_InvalidName_init an_InvalidName_init od_InvalidClaim_init an_InvalidClaim_init od_InvalidIndex_init an_InvalidIndex_init od_InvalidPieces_init an_InvalidPieces_init od_InvalidKinds_init an_InvalidKinds_init od_InvalidStretches_init an_InvalidStretches_init od_InvalidDeeds_init an_InvalidDeeds_init od_UnknownName_init an_UnknownName_init od_InUse_init an_InUse_init od_TooMany_init an_TooMany_init od_Broken_init an_Broken_init od_WrongValue_init an_WrongValue_init od_WrongName_init an_WrongName_init od_NoAnswer_init an_NoAnswer_init : Option Addr} {sl_law_sip sl_law_pick sl_law_cup sl_law_classes sl_law_given sl_law_indexed sl_law_right sl_law sl_NotAPattern_init sl_NotARun_init sl_InvalidResistance_init sl_InvalidCount_init sl_InvalidNumber_init sl_InvalidText_init sl_InvalidName_init sl_InvalidClaim_init sl_InvalidIndex_init sl_InvalidPieces_init sl_InvalidKinds_init sl_InvalidStretches_init sl_InvalidDeeds_init sl_UnknownName_init sl_InUse_init sl_TooMany_init sl_Broken_init sl_WrongValue_init sl_WrongName_init sl_NoAnswer_init : Array (Option Value)}
    {oc_law_sip kV_law_sip dc_law_sip pm_law_sip cd_law_sip ct_law_sip oc_law_pick kV_law_pick dc_law_pick pm_law_pick cd_law_pick ct_law_pick oc_law_cup kV_law_cup dc_law_cup pm_law_cup cd_law_cup ct_law_cup oc_law_classes kV_law_classes dc_law_classes pm_law_classes cd_law_classes ct_law_classes oc_law_given kV_law_given dc_law_given pm_law_given cd_law_given ct_law_given oc_law_indexed kV_law_indexed dc_law_indexed pm_law_indexed cd_law_indexed ct_law_indexed oc_law_right kV_law_right dc_law_right pm_law_right cd_law_right ct_law_right oc_law kV_law dc_law pm_law cd_law ct_law oc_NotAPattern_init kV_NotAPattern_init dc_NotAPattern_init pm_NotAPattern_init cd_NotAPattern_init ct_NotAPattern_init oc_NotARun_init kV_NotARun_init dc_NotARun_init pm_NotARun_init cd_NotARun_init ct_NotARun_init oc_InvalidResistance_init kV_InvalidResistance_init dc_InvalidResistance_init pm_InvalidResistance_init cd_InvalidResistance_init ct_InvalidResistance_init oc_InvalidCount_init kV_InvalidCount_init dc_InvalidCount_init pm_InvalidCount_init cd_InvalidCount_init ct_InvalidCount_init oc_InvalidNumber_init kV_InvalidNumber_init dc_InvalidNumber_init pm_InvalidNumber_init cd_InvalidNumber_init ct_InvalidNumber_init oc_InvalidText_init kV_InvalidText_init dc_InvalidText_init pm_InvalidText_init cd_InvalidText_init ct_InvalidText_init oc_InvalidName_init kV_InvalidName_init dc_InvalidName_init pm_InvalidName_init cd_InvalidName_init ct_InvalidName_init oc_InvalidClaim_init kV_InvalidClaim_init dc_InvalidClaim_init pm_InvalidClaim_init cd_InvalidClaim_init ct_InvalidClaim_init oc_InvalidIndex_init kV_InvalidIndex_init dc_InvalidIndex_init pm_InvalidIndex_init cd_InvalidIndex_init ct_InvalidIndex_init oc_InvalidPieces_init kV_InvalidPieces_init dc_InvalidPieces_init pm_InvalidPieces_init cd_InvalidPieces_init ct_InvalidPieces_init oc_InvalidKinds_init kV_InvalidKinds_init dc_InvalidKinds_init pm_InvalidKinds_init cd_InvalidKinds_init ct_InvalidKinds_init oc_InvalidStretches_init kV_InvalidStretches_init dc_InvalidStretches_init pm_InvalidStretches_init cd_InvalidStretches_init ct_InvalidStretches_init oc_InvalidDeeds_init kV_InvalidDeeds_init dc_InvalidDeeds_init pm_InvalidDeeds_init cd_InvalidDeeds_init ct_InvalidDeeds_init oc_UnknownName_init kV_UnknownName_init dc_UnknownName_init pm_UnknownName_init cd_UnknownName_init ct_UnknownName_init oc_InUse_init kV_InUse_init dc_InUse_init pm_InUse_init cd_InUse_init ct_InUse_init oc_TooMany_init kV_TooMany_init dc_TooMany_init pm_TooMany_init cd_TooMany_init ct_TooMany_init oc_Broken_init kV_Broken_init dc_Broken_init pm_Broken_init cd_Broken_init ct_Broken_init oc_WrongValue_init kV_WrongValue_init dc_WrongValue_init pm_WrongValue_init cd_WrongValue_init ct_WrongValue_init oc_WrongName_init kV_WrongName_init dc_WrongName_init pm_WrongName_init cd_WrongName_init ct_WrongName_init oc_NoAnswer_init kV_NoAnswer_init dc_NoAnswer_init pm_NoAnswer_init cd_NoAnswer_init ct_NoAnswer_init : Value} (hfa : mg "law" = some (.ref fa))
    (aC0 : PySem.W.nsIn K mainGlobals "NotAPattern" = some (some (.ref C0)))
    (aC1 : PySem.W.nsIn K mainGlobals "NotARun" = some (some (.ref C1)))
    (aC2 : PySem.W.nsIn K mainGlobals "InvalidResistance" = some (some (.ref C2)))
    (aC3 : PySem.W.nsIn K mainGlobals "InvalidCount" = some (some (.ref C3)))
    (aC4 : PySem.W.nsIn K mainGlobals "InvalidNumber" = some (some (.ref C4)))
    (aC5 : PySem.W.nsIn K mainGlobals "InvalidText" = some (some (.ref C5)))
    (aC6 : PySem.W.nsIn K mainGlobals "InvalidName" = some (some (.ref C6)))
    (aC7 : PySem.W.nsIn K mainGlobals "InvalidClaim" = some (some (.ref C7)))
    (aC8 : PySem.W.nsIn K mainGlobals "InvalidIndex" = some (some (.ref C8)))
    (aC9 : PySem.W.nsIn K mainGlobals "InvalidPieces" = some (some (.ref C9)))
    (aC10 : PySem.W.nsIn K mainGlobals "InvalidKinds" = some (some (.ref C10)))
    (aC11 : PySem.W.nsIn K mainGlobals "InvalidStretches" = some (some (.ref C11)))
    (aC12 : PySem.W.nsIn K mainGlobals "InvalidDeeds" = some (some (.ref C12)))
    (aC13 : PySem.W.nsIn K mainGlobals "UnknownName" = some (some (.ref C13)))
    (aC14 : PySem.W.nsIn K mainGlobals "InUse" = some (some (.ref C14)))
    (aC15 : PySem.W.nsIn K mainGlobals "TooMany" = some (some (.ref C15)))
    (aC16 : PySem.W.nsIn K mainGlobals "Broken" = some (some (.ref C16)))
    (aC17 : PySem.W.nsIn K mainGlobals "NoLimit" = some (some (.ref C17)))
    (aC18 : PySem.W.nsIn K mainGlobals "NothingToUndo" = some (some (.ref C18)))
    (aC19 : PySem.W.nsIn K mainGlobals "WrongValue" = some (some (.ref C19)))
    (aC20 : PySem.W.nsIn K mainGlobals "WrongName" = some (some (.ref C20)))
    (aC21 : PySem.W.nsIn K mainGlobals "NoAnswer" = some (some (.ref C21)))
    (a_law_sip : PySem.W.nsIn K mainGlobals "_law_sip" = some (some (.ref f_law_sip)))
    (l_law_sip : K.lookup f_law_sip = some ⟨oc_law_sip, od_law_sip, .func (PySem.W.fnOf "_law_sip" "_law_sip" (defArgs s_law_sip) (defBody s_law_sip) (defScope s_law_sip) .none kV_law_sip dc_law_sip pm_law_sip an_law_sip cd_law_sip ct_law_sip), sl_law_sip⟩)
    (c_law_sip : PySem.W.codeIn K cd_law_sip "_law_sip" = true)
    (k_law_sip : PySem.W.keepIn K (.ref f_law_sip) = true)
    (a_law_pick : PySem.W.nsIn K mainGlobals "_law_pick" = some (some (.ref f_law_pick)))
    (l_law_pick : K.lookup f_law_pick = some ⟨oc_law_pick, od_law_pick, .func (PySem.W.fnOf "_law_pick" "_law_pick" (defArgs s_law_pick) (defBody s_law_pick) (defScope s_law_pick) .none kV_law_pick dc_law_pick pm_law_pick an_law_pick cd_law_pick ct_law_pick), sl_law_pick⟩)
    (c_law_pick : PySem.W.codeIn K cd_law_pick "_law_pick" = true)
    (k_law_pick : PySem.W.keepIn K (.ref f_law_pick) = true)
    (a_law_cup : PySem.W.nsIn K mainGlobals "_law_cup" = some (some (.ref f_law_cup)))
    (l_law_cup : K.lookup f_law_cup = some ⟨oc_law_cup, od_law_cup, .func (PySem.W.fnOf "_law_cup" "_law_cup" (defArgs s_law_cup) (defBody s_law_cup) (defScope s_law_cup) .none kV_law_cup dc_law_cup pm_law_cup an_law_cup cd_law_cup ct_law_cup), sl_law_cup⟩)
    (c_law_cup : PySem.W.codeIn K cd_law_cup "_law_cup" = true)
    (k_law_cup : PySem.W.keepIn K (.ref f_law_cup) = true)
    (a_law_classes : PySem.W.nsIn K mainGlobals "_law_classes" = some (some (.ref f_law_classes)))
    (l_law_classes : K.lookup f_law_classes = some ⟨oc_law_classes, od_law_classes, .func (PySem.W.fnOf "_law_classes" "_law_classes" (defArgs s_law_classes) (defBody s_law_classes) (defScope s_law_classes) .none kV_law_classes dc_law_classes pm_law_classes an_law_classes cd_law_classes ct_law_classes), sl_law_classes⟩)
    (c_law_classes : PySem.W.codeIn K cd_law_classes "_law_classes" = true)
    (k_law_classes : PySem.W.keepIn K (.ref f_law_classes) = true)
    (a_law_given : PySem.W.nsIn K mainGlobals "_law_given" = some (some (.ref f_law_given)))
    (l_law_given : K.lookup f_law_given = some ⟨oc_law_given, od_law_given, .func (PySem.W.fnOf "_law_given" "_law_given" (defArgs s_law_given) (defBody s_law_given) (defScope s_law_given) .none kV_law_given dc_law_given pm_law_given an_law_given cd_law_given ct_law_given), sl_law_given⟩)
    (c_law_given : PySem.W.codeIn K cd_law_given "_law_given" = true)
    (k_law_given : PySem.W.keepIn K (.ref f_law_given) = true)
    (a_law_indexed : PySem.W.nsIn K mainGlobals "_law_indexed" = some (some (.ref f_law_indexed)))
    (l_law_indexed : K.lookup f_law_indexed = some ⟨oc_law_indexed, od_law_indexed, .func (PySem.W.fnOf "_law_indexed" "_law_indexed" (defArgs s_law_indexed) (defBody s_law_indexed) (defScope s_law_indexed) .none kV_law_indexed dc_law_indexed pm_law_indexed an_law_indexed cd_law_indexed ct_law_indexed), sl_law_indexed⟩)
    (c_law_indexed : PySem.W.codeIn K cd_law_indexed "_law_indexed" = true)
    (k_law_indexed : PySem.W.keepIn K (.ref f_law_indexed) = true)
    (a_law_right : PySem.W.nsIn K mainGlobals "_law_right" = some (some (.ref f_law_right)))
    (l_law_right : K.lookup f_law_right = some ⟨oc_law_right, od_law_right, .func (PySem.W.fnOf "_law_right" "_law_right" (defArgs s_law_right) (defBody s_law_right) (defScope s_law_right) .none kV_law_right dc_law_right pm_law_right an_law_right cd_law_right ct_law_right), sl_law_right⟩)
    (c_law_right : PySem.W.codeIn K cd_law_right "_law_right" = true)
    (k_law_right : PySem.W.keepIn K (.ref f_law_right) = true)
    (a_law : PySem.W.nsIn K mainGlobals "law" = some (some (.ref f_law)))
    (l_law : K.lookup f_law = some ⟨oc_law, od_law, .func (PySem.W.fnOf "law" "law" (defArgs s_law) (defBody s_law) (defScope s_law) .none kV_law dc_law pm_law an_law cd_law ct_law), sl_law⟩)
    (c_law : PySem.W.codeIn K cd_law "law" = true)
    (k_law : PySem.W.keepIn K (.ref f_law) = true)
    (a_NotAPattern_init : PySem.W.findIn K (.ref C0) "__init__" = some (some (.ref f_NotAPattern_init)))
    (i_NotAPattern_init : PySem.W.isFn K (.ref f_NotAPattern_init) = true)
    (l_NotAPattern_init : K.lookup f_NotAPattern_init = some ⟨oc_NotAPattern_init, od_NotAPattern_init, .func (PySem.W.fnOf "__init__" "NotAPattern.__init__" (defArgs s_NotAPattern_init) (defBody s_NotAPattern_init) (defScope s_NotAPattern_init) .none kV_NotAPattern_init dc_NotAPattern_init pm_NotAPattern_init an_NotAPattern_init cd_NotAPattern_init ct_NotAPattern_init), sl_NotAPattern_init⟩)
    (c_NotAPattern_init : PySem.W.codeIn K cd_NotAPattern_init "NotAPattern.__init__" = true)
    (k_NotAPattern_init : PySem.W.keepIn K (.ref f_NotAPattern_init) = true)
    (a_NotARun_init : PySem.W.findIn K (.ref C1) "__init__" = some (some (.ref f_NotARun_init)))
    (i_NotARun_init : PySem.W.isFn K (.ref f_NotARun_init) = true)
    (l_NotARun_init : K.lookup f_NotARun_init = some ⟨oc_NotARun_init, od_NotARun_init, .func (PySem.W.fnOf "__init__" "NotARun.__init__" (defArgs s_NotARun_init) (defBody s_NotARun_init) (defScope s_NotARun_init) .none kV_NotARun_init dc_NotARun_init pm_NotARun_init an_NotARun_init cd_NotARun_init ct_NotARun_init), sl_NotARun_init⟩)
    (c_NotARun_init : PySem.W.codeIn K cd_NotARun_init "NotARun.__init__" = true)
    (k_NotARun_init : PySem.W.keepIn K (.ref f_NotARun_init) = true)
    (a_InvalidResistance_init : PySem.W.findIn K (.ref C2) "__init__" = some (some (.ref f_InvalidResistance_init)))
    (i_InvalidResistance_init : PySem.W.isFn K (.ref f_InvalidResistance_init) = true)
    (l_InvalidResistance_init : K.lookup f_InvalidResistance_init = some ⟨oc_InvalidResistance_init, od_InvalidResistance_init, .func (PySem.W.fnOf "__init__" "InvalidResistance.__init__" (defArgs s_InvalidResistance_init) (defBody s_InvalidResistance_init) (defScope s_InvalidResistance_init) .none kV_InvalidResistance_init dc_InvalidResistance_init pm_InvalidResistance_init an_InvalidResistance_init cd_InvalidResistance_init ct_InvalidResistance_init), sl_InvalidResistance_init⟩)
    (c_InvalidResistance_init : PySem.W.codeIn K cd_InvalidResistance_init "InvalidResistance.__init__" = true)
    (k_InvalidResistance_init : PySem.W.keepIn K (.ref f_InvalidResistance_init) = true)
    (a_InvalidCount_init : PySem.W.findIn K (.ref C3) "__init__" = some (some (.ref f_InvalidCount_init)))
    (i_InvalidCount_init : PySem.W.isFn K (.ref f_InvalidCount_init) = true)
    (l_InvalidCount_init : K.lookup f_InvalidCount_init = some ⟨oc_InvalidCount_init, od_InvalidCount_init, .func (PySem.W.fnOf "__init__" "InvalidCount.__init__" (defArgs s_InvalidCount_init) (defBody s_InvalidCount_init) (defScope s_InvalidCount_init) .none kV_InvalidCount_init dc_InvalidCount_init pm_InvalidCount_init an_InvalidCount_init cd_InvalidCount_init ct_InvalidCount_init), sl_InvalidCount_init⟩)
    (c_InvalidCount_init : PySem.W.codeIn K cd_InvalidCount_init "InvalidCount.__init__" = true)
    (k_InvalidCount_init : PySem.W.keepIn K (.ref f_InvalidCount_init) = true)
    (a_InvalidNumber_init : PySem.W.findIn K (.ref C4) "__init__" = some (some (.ref f_InvalidNumber_init)))
    (i_InvalidNumber_init : PySem.W.isFn K (.ref f_InvalidNumber_init) = true)
    (l_InvalidNumber_init : K.lookup f_InvalidNumber_init = some ⟨oc_InvalidNumber_init, od_InvalidNumber_init, .func (PySem.W.fnOf "__init__" "InvalidNumber.__init__" (defArgs s_InvalidNumber_init) (defBody s_InvalidNumber_init) (defScope s_InvalidNumber_init) .none kV_InvalidNumber_init dc_InvalidNumber_init pm_InvalidNumber_init an_InvalidNumber_init cd_InvalidNumber_init ct_InvalidNumber_init), sl_InvalidNumber_init⟩)
    (c_InvalidNumber_init : PySem.W.codeIn K cd_InvalidNumber_init "InvalidNumber.__init__" = true)
    (k_InvalidNumber_init : PySem.W.keepIn K (.ref f_InvalidNumber_init) = true)
    (a_InvalidText_init : PySem.W.findIn K (.ref C5) "__init__" = some (some (.ref f_InvalidText_init)))
    (i_InvalidText_init : PySem.W.isFn K (.ref f_InvalidText_init) = true)
    (l_InvalidText_init : K.lookup f_InvalidText_init = some ⟨oc_InvalidText_init, od_InvalidText_init, .func (PySem.W.fnOf "__init__" "InvalidText.__init__" (defArgs s_InvalidText_init) (defBody s_InvalidText_init) (defScope s_InvalidText_init) .none kV_InvalidText_init dc_InvalidText_init pm_InvalidText_init an_InvalidText_init cd_InvalidText_init ct_InvalidText_init), sl_InvalidText_init⟩)
    (c_InvalidText_init : PySem.W.codeIn K cd_InvalidText_init "InvalidText.__init__" = true)
    (k_InvalidText_init : PySem.W.keepIn K (.ref f_InvalidText_init) = true)
    (a_InvalidName_init : PySem.W.findIn K (.ref C6) "__init__" = some (some (.ref f_InvalidName_init)))
    (i_InvalidName_init : PySem.W.isFn K (.ref f_InvalidName_init) = true)
    (l_InvalidName_init : K.lookup f_InvalidName_init = some ⟨oc_InvalidName_init, od_InvalidName_init, .func (PySem.W.fnOf "__init__" "InvalidName.__init__" (defArgs s_InvalidName_init) (defBody s_InvalidName_init) (defScope s_InvalidName_init) .none kV_InvalidName_init dc_InvalidName_init pm_InvalidName_init an_InvalidName_init cd_InvalidName_init ct_InvalidName_init), sl_InvalidName_init⟩)
    (c_InvalidName_init : PySem.W.codeIn K cd_InvalidName_init "InvalidName.__init__" = true)
    (k_InvalidName_init : PySem.W.keepIn K (.ref f_InvalidName_init) = true)
    (a_InvalidClaim_init : PySem.W.findIn K (.ref C7) "__init__" = some (some (.ref f_InvalidClaim_init)))
    (i_InvalidClaim_init : PySem.W.isFn K (.ref f_InvalidClaim_init) = true)
    (l_InvalidClaim_init : K.lookup f_InvalidClaim_init = some ⟨oc_InvalidClaim_init, od_InvalidClaim_init, .func (PySem.W.fnOf "__init__" "InvalidClaim.__init__" (defArgs s_InvalidClaim_init) (defBody s_InvalidClaim_init) (defScope s_InvalidClaim_init) .none kV_InvalidClaim_init dc_InvalidClaim_init pm_InvalidClaim_init an_InvalidClaim_init cd_InvalidClaim_init ct_InvalidClaim_init), sl_InvalidClaim_init⟩)
    (c_InvalidClaim_init : PySem.W.codeIn K cd_InvalidClaim_init "InvalidClaim.__init__" = true)
    (k_InvalidClaim_init : PySem.W.keepIn K (.ref f_InvalidClaim_init) = true)
    (a_InvalidIndex_init : PySem.W.findIn K (.ref C8) "__init__" = some (some (.ref f_InvalidIndex_init)))
    (i_InvalidIndex_init : PySem.W.isFn K (.ref f_InvalidIndex_init) = true)
    (l_InvalidIndex_init : K.lookup f_InvalidIndex_init = some ⟨oc_InvalidIndex_init, od_InvalidIndex_init, .func (PySem.W.fnOf "__init__" "InvalidIndex.__init__" (defArgs s_InvalidIndex_init) (defBody s_InvalidIndex_init) (defScope s_InvalidIndex_init) .none kV_InvalidIndex_init dc_InvalidIndex_init pm_InvalidIndex_init an_InvalidIndex_init cd_InvalidIndex_init ct_InvalidIndex_init), sl_InvalidIndex_init⟩)
    (c_InvalidIndex_init : PySem.W.codeIn K cd_InvalidIndex_init "InvalidIndex.__init__" = true)
    (k_InvalidIndex_init : PySem.W.keepIn K (.ref f_InvalidIndex_init) = true)
    (a_InvalidPieces_init : PySem.W.findIn K (.ref C9) "__init__" = some (some (.ref f_InvalidPieces_init)))
    (i_InvalidPieces_init : PySem.W.isFn K (.ref f_InvalidPieces_init) = true)
    (l_InvalidPieces_init : K.lookup f_InvalidPieces_init = some ⟨oc_InvalidPieces_init, od_InvalidPieces_init, .func (PySem.W.fnOf "__init__" "InvalidPieces.__init__" (defArgs s_InvalidPieces_init) (defBody s_InvalidPieces_init) (defScope s_InvalidPieces_init) .none kV_InvalidPieces_init dc_InvalidPieces_init pm_InvalidPieces_init an_InvalidPieces_init cd_InvalidPieces_init ct_InvalidPieces_init), sl_InvalidPieces_init⟩)
    (c_InvalidPieces_init : PySem.W.codeIn K cd_InvalidPieces_init "InvalidPieces.__init__" = true)
    (k_InvalidPieces_init : PySem.W.keepIn K (.ref f_InvalidPieces_init) = true)
    (a_InvalidKinds_init : PySem.W.findIn K (.ref C10) "__init__" = some (some (.ref f_InvalidKinds_init)))
    (i_InvalidKinds_init : PySem.W.isFn K (.ref f_InvalidKinds_init) = true)
    (l_InvalidKinds_init : K.lookup f_InvalidKinds_init = some ⟨oc_InvalidKinds_init, od_InvalidKinds_init, .func (PySem.W.fnOf "__init__" "InvalidKinds.__init__" (defArgs s_InvalidKinds_init) (defBody s_InvalidKinds_init) (defScope s_InvalidKinds_init) .none kV_InvalidKinds_init dc_InvalidKinds_init pm_InvalidKinds_init an_InvalidKinds_init cd_InvalidKinds_init ct_InvalidKinds_init), sl_InvalidKinds_init⟩)
    (c_InvalidKinds_init : PySem.W.codeIn K cd_InvalidKinds_init "InvalidKinds.__init__" = true)
    (k_InvalidKinds_init : PySem.W.keepIn K (.ref f_InvalidKinds_init) = true)
    (a_InvalidStretches_init : PySem.W.findIn K (.ref C11) "__init__" = some (some (.ref f_InvalidStretches_init)))
    (i_InvalidStretches_init : PySem.W.isFn K (.ref f_InvalidStretches_init) = true)
    (l_InvalidStretches_init : K.lookup f_InvalidStretches_init = some ⟨oc_InvalidStretches_init, od_InvalidStretches_init, .func (PySem.W.fnOf "__init__" "InvalidStretches.__init__" (defArgs s_InvalidStretches_init) (defBody s_InvalidStretches_init) (defScope s_InvalidStretches_init) .none kV_InvalidStretches_init dc_InvalidStretches_init pm_InvalidStretches_init an_InvalidStretches_init cd_InvalidStretches_init ct_InvalidStretches_init), sl_InvalidStretches_init⟩)
    (c_InvalidStretches_init : PySem.W.codeIn K cd_InvalidStretches_init "InvalidStretches.__init__" = true)
    (k_InvalidStretches_init : PySem.W.keepIn K (.ref f_InvalidStretches_init) = true)
    (a_InvalidDeeds_init : PySem.W.findIn K (.ref C12) "__init__" = some (some (.ref f_InvalidDeeds_init)))
    (i_InvalidDeeds_init : PySem.W.isFn K (.ref f_InvalidDeeds_init) = true)
    (l_InvalidDeeds_init : K.lookup f_InvalidDeeds_init = some ⟨oc_InvalidDeeds_init, od_InvalidDeeds_init, .func (PySem.W.fnOf "__init__" "InvalidDeeds.__init__" (defArgs s_InvalidDeeds_init) (defBody s_InvalidDeeds_init) (defScope s_InvalidDeeds_init) .none kV_InvalidDeeds_init dc_InvalidDeeds_init pm_InvalidDeeds_init an_InvalidDeeds_init cd_InvalidDeeds_init ct_InvalidDeeds_init), sl_InvalidDeeds_init⟩)
    (c_InvalidDeeds_init : PySem.W.codeIn K cd_InvalidDeeds_init "InvalidDeeds.__init__" = true)
    (k_InvalidDeeds_init : PySem.W.keepIn K (.ref f_InvalidDeeds_init) = true)
    (a_UnknownName_init : PySem.W.findIn K (.ref C13) "__init__" = some (some (.ref f_UnknownName_init)))
    (i_UnknownName_init : PySem.W.isFn K (.ref f_UnknownName_init) = true)
    (l_UnknownName_init : K.lookup f_UnknownName_init = some ⟨oc_UnknownName_init, od_UnknownName_init, .func (PySem.W.fnOf "__init__" "UnknownName.__init__" (defArgs s_UnknownName_init) (defBody s_UnknownName_init) (defScope s_UnknownName_init) .none kV_UnknownName_init dc_UnknownName_init pm_UnknownName_init an_UnknownName_init cd_UnknownName_init ct_UnknownName_init), sl_UnknownName_init⟩)
    (c_UnknownName_init : PySem.W.codeIn K cd_UnknownName_init "UnknownName.__init__" = true)
    (k_UnknownName_init : PySem.W.keepIn K (.ref f_UnknownName_init) = true)
    (a_InUse_init : PySem.W.findIn K (.ref C14) "__init__" = some (some (.ref f_InUse_init)))
    (i_InUse_init : PySem.W.isFn K (.ref f_InUse_init) = true)
    (l_InUse_init : K.lookup f_InUse_init = some ⟨oc_InUse_init, od_InUse_init, .func (PySem.W.fnOf "__init__" "InUse.__init__" (defArgs s_InUse_init) (defBody s_InUse_init) (defScope s_InUse_init) .none kV_InUse_init dc_InUse_init pm_InUse_init an_InUse_init cd_InUse_init ct_InUse_init), sl_InUse_init⟩)
    (c_InUse_init : PySem.W.codeIn K cd_InUse_init "InUse.__init__" = true)
    (k_InUse_init : PySem.W.keepIn K (.ref f_InUse_init) = true)
    (a_TooMany_init : PySem.W.findIn K (.ref C15) "__init__" = some (some (.ref f_TooMany_init)))
    (i_TooMany_init : PySem.W.isFn K (.ref f_TooMany_init) = true)
    (l_TooMany_init : K.lookup f_TooMany_init = some ⟨oc_TooMany_init, od_TooMany_init, .func (PySem.W.fnOf "__init__" "TooMany.__init__" (defArgs s_TooMany_init) (defBody s_TooMany_init) (defScope s_TooMany_init) .none kV_TooMany_init dc_TooMany_init pm_TooMany_init an_TooMany_init cd_TooMany_init ct_TooMany_init), sl_TooMany_init⟩)
    (c_TooMany_init : PySem.W.codeIn K cd_TooMany_init "TooMany.__init__" = true)
    (k_TooMany_init : PySem.W.keepIn K (.ref f_TooMany_init) = true)
    (a_Broken_init : PySem.W.findIn K (.ref C16) "__init__" = some (some (.ref f_Broken_init)))
    (i_Broken_init : PySem.W.isFn K (.ref f_Broken_init) = true)
    (l_Broken_init : K.lookup f_Broken_init = some ⟨oc_Broken_init, od_Broken_init, .func (PySem.W.fnOf "__init__" "Broken.__init__" (defArgs s_Broken_init) (defBody s_Broken_init) (defScope s_Broken_init) .none kV_Broken_init dc_Broken_init pm_Broken_init an_Broken_init cd_Broken_init ct_Broken_init), sl_Broken_init⟩)
    (c_Broken_init : PySem.W.codeIn K cd_Broken_init "Broken.__init__" = true)
    (k_Broken_init : PySem.W.keepIn K (.ref f_Broken_init) = true)
    (a_WrongValue_init : PySem.W.findIn K (.ref C19) "__init__" = some (some (.ref f_WrongValue_init)))
    (i_WrongValue_init : PySem.W.isFn K (.ref f_WrongValue_init) = true)
    (l_WrongValue_init : K.lookup f_WrongValue_init = some ⟨oc_WrongValue_init, od_WrongValue_init, .func (PySem.W.fnOf "__init__" "WrongValue.__init__" (defArgs s_WrongValue_init) (defBody s_WrongValue_init) (defScope s_WrongValue_init) .none kV_WrongValue_init dc_WrongValue_init pm_WrongValue_init an_WrongValue_init cd_WrongValue_init ct_WrongValue_init), sl_WrongValue_init⟩)
    (c_WrongValue_init : PySem.W.codeIn K cd_WrongValue_init "WrongValue.__init__" = true)
    (k_WrongValue_init : PySem.W.keepIn K (.ref f_WrongValue_init) = true)
    (a_WrongName_init : PySem.W.findIn K (.ref C20) "__init__" = some (some (.ref f_WrongName_init)))
    (i_WrongName_init : PySem.W.isFn K (.ref f_WrongName_init) = true)
    (l_WrongName_init : K.lookup f_WrongName_init = some ⟨oc_WrongName_init, od_WrongName_init, .func (PySem.W.fnOf "__init__" "WrongName.__init__" (defArgs s_WrongName_init) (defBody s_WrongName_init) (defScope s_WrongName_init) .none kV_WrongName_init dc_WrongName_init pm_WrongName_init an_WrongName_init cd_WrongName_init ct_WrongName_init), sl_WrongName_init⟩)
    (c_WrongName_init : PySem.W.codeIn K cd_WrongName_init "WrongName.__init__" = true)
    (k_WrongName_init : PySem.W.keepIn K (.ref f_WrongName_init) = true)
    (a_NoAnswer_init : PySem.W.findIn K (.ref C21) "__init__" = some (some (.ref f_NoAnswer_init)))
    (i_NoAnswer_init : PySem.W.isFn K (.ref f_NoAnswer_init) = true)
    (l_NoAnswer_init : K.lookup f_NoAnswer_init = some ⟨oc_NoAnswer_init, od_NoAnswer_init, .func (PySem.W.fnOf "__init__" "NoAnswer.__init__" (defArgs s_NoAnswer_init) (defBody s_NoAnswer_init) (defScope s_NoAnswer_init) .none kV_NoAnswer_init dc_NoAnswer_init pm_NoAnswer_init an_NoAnswer_init cd_NoAnswer_init ct_NoAnswer_init), sl_NoAnswer_init⟩)
    (c_NoAnswer_init : PySem.W.codeIn K cd_NoAnswer_init "NoAnswer.__init__" = true)
    (k_NoAnswer_init : PySem.W.keepIn K (.ref f_NoAnswer_init) = true)
    (ai_17 : PySem.W.findIn K (.ref C17) "__init__" = some (some (.ref f_NoAnswer_init)))
    (ai_18 : PySem.W.findIn K (.ref C18) "__init__" = some (some (.ref f_NoAnswer_init)))
    (rd_19 : PySem.W.readsIn K C19 (.type "type") = true)
    (ga_19 : PySem.W.specialIn K (.ref C19) "__getattribute__" = some (some (.builtin "type.__getattribute__")))
    (fc_19 : PySem.W.findCls K (.ref C19) (.type "type") "__init__" = some (.val (.ref f_WrongValue_init)))
    (rd_20 : PySem.W.readsIn K C20 (.type "type") = true)
    (ga_20 : PySem.W.specialIn K (.ref C20) "__getattribute__" = some (some (.builtin "type.__getattribute__")))
    (fc_20 : PySem.W.findCls K (.ref C20) (.type "type") "__init__" = some (.val (.ref f_WrongName_init)))
    (rd_21 : PySem.W.readsIn K C21 (.type "type") = true)
    (ga_21 : PySem.W.specialIn K (.ref C21) "__getattribute__" = some (some (.builtin "type.__getattribute__")))
    (fc_21 : PySem.W.findCls K (.ref C21) (.type "type") "__init__" = some (.val (.ref f_NoAnswer_init)))
    (xb_0 : xcB K C0 [.type "ValueError", .type "Exception", .type "BaseException", .type "object"] "ValueError.__new__" = true)
    (ro_0 : rowB K [C0, C1, C2, C3, C4, C5, C6, C7, C8, C9, C10, C11, C12, C13, C14, C15, C16, C17, C18, C19, C20, C21] 0 = true)
    (xb_1 : xcB K C1 [.type "ValueError", .type "Exception", .type "BaseException", .type "object"] "ValueError.__new__" = true)
    (ro_1 : rowB K [C0, C1, C2, C3, C4, C5, C6, C7, C8, C9, C10, C11, C12, C13, C14, C15, C16, C17, C18, C19, C20, C21] 1 = true)
    (xb_2 : xcB K C2 [.type "ValueError", .type "Exception", .type "BaseException", .type "object"] "ValueError.__new__" = true)
    (ro_2 : rowB K [C0, C1, C2, C3, C4, C5, C6, C7, C8, C9, C10, C11, C12, C13, C14, C15, C16, C17, C18, C19, C20, C21] 2 = true)
    (xb_3 : xcB K C3 [.type "ValueError", .type "Exception", .type "BaseException", .type "object"] "ValueError.__new__" = true)
    (ro_3 : rowB K [C0, C1, C2, C3, C4, C5, C6, C7, C8, C9, C10, C11, C12, C13, C14, C15, C16, C17, C18, C19, C20, C21] 3 = true)
    (xb_4 : xcB K C4 [.type "ValueError", .type "Exception", .type "BaseException", .type "object"] "ValueError.__new__" = true)
    (ro_4 : rowB K [C0, C1, C2, C3, C4, C5, C6, C7, C8, C9, C10, C11, C12, C13, C14, C15, C16, C17, C18, C19, C20, C21] 4 = true)
    (xb_5 : xcB K C5 [.type "ValueError", .type "Exception", .type "BaseException", .type "object"] "ValueError.__new__" = true)
    (ro_5 : rowB K [C0, C1, C2, C3, C4, C5, C6, C7, C8, C9, C10, C11, C12, C13, C14, C15, C16, C17, C18, C19, C20, C21] 5 = true)
    (xb_6 : xcB K C6 [.type "ValueError", .type "Exception", .type "BaseException", .type "object"] "ValueError.__new__" = true)
    (ro_6 : rowB K [C0, C1, C2, C3, C4, C5, C6, C7, C8, C9, C10, C11, C12, C13, C14, C15, C16, C17, C18, C19, C20, C21] 6 = true)
    (xb_7 : xcB K C7 [.type "ValueError", .type "Exception", .type "BaseException", .type "object"] "ValueError.__new__" = true)
    (ro_7 : rowB K [C0, C1, C2, C3, C4, C5, C6, C7, C8, C9, C10, C11, C12, C13, C14, C15, C16, C17, C18, C19, C20, C21] 7 = true)
    (xb_8 : xcB K C8 [.type "ValueError", .type "Exception", .type "BaseException", .type "object"] "ValueError.__new__" = true)
    (ro_8 : rowB K [C0, C1, C2, C3, C4, C5, C6, C7, C8, C9, C10, C11, C12, C13, C14, C15, C16, C17, C18, C19, C20, C21] 8 = true)
    (xb_9 : xcB K C9 [.type "ValueError", .type "Exception", .type "BaseException", .type "object"] "ValueError.__new__" = true)
    (ro_9 : rowB K [C0, C1, C2, C3, C4, C5, C6, C7, C8, C9, C10, C11, C12, C13, C14, C15, C16, C17, C18, C19, C20, C21] 9 = true)
    (xb_10 : xcB K C10 [.type "ValueError", .type "Exception", .type "BaseException", .type "object"] "ValueError.__new__" = true)
    (ro_10 : rowB K [C0, C1, C2, C3, C4, C5, C6, C7, C8, C9, C10, C11, C12, C13, C14, C15, C16, C17, C18, C19, C20, C21] 10 = true)
    (xb_11 : xcB K C11 [.type "ValueError", .type "Exception", .type "BaseException", .type "object"] "ValueError.__new__" = true)
    (ro_11 : rowB K [C0, C1, C2, C3, C4, C5, C6, C7, C8, C9, C10, C11, C12, C13, C14, C15, C16, C17, C18, C19, C20, C21] 11 = true)
    (xb_12 : xcB K C12 [.type "ValueError", .type "Exception", .type "BaseException", .type "object"] "ValueError.__new__" = true)
    (ro_12 : rowB K [C0, C1, C2, C3, C4, C5, C6, C7, C8, C9, C10, C11, C12, C13, C14, C15, C16, C17, C18, C19, C20, C21] 12 = true)
    (xb_13 : xcB K C13 [.type "LookupError", .type "Exception", .type "BaseException", .type "object"] "LookupError.__new__" = true)
    (ro_13 : rowB K [C0, C1, C2, C3, C4, C5, C6, C7, C8, C9, C10, C11, C12, C13, C14, C15, C16, C17, C18, C19, C20, C21] 13 = true)
    (xb_14 : xcB K C14 [.type "LookupError", .type "Exception", .type "BaseException", .type "object"] "LookupError.__new__" = true)
    (ro_14 : rowB K [C0, C1, C2, C3, C4, C5, C6, C7, C8, C9, C10, C11, C12, C13, C14, C15, C16, C17, C18, C19, C20, C21] 14 = true)
    (xb_15 : xcB K C15 [.type "ArithmeticError", .type "Exception", .type "BaseException", .type "object"] "ArithmeticError.__new__" = true)
    (ro_15 : rowB K [C0, C1, C2, C3, C4, C5, C6, C7, C8, C9, C10, C11, C12, C13, C14, C15, C16, C17, C18, C19, C20, C21] 15 = true)
    (xb_16 : xcB K C16 [.type "ArithmeticError", .type "Exception", .type "BaseException", .type "object"] "ArithmeticError.__new__" = true)
    (ro_16 : rowB K [C0, C1, C2, C3, C4, C5, C6, C7, C8, C9, C10, C11, C12, C13, C14, C15, C16, C17, C18, C19, C20, C21] 16 = true)
    (xb_17 : xcB K C17 [.type "ArithmeticError", .type "Exception", .type "BaseException", .type "object"] "ArithmeticError.__new__" = true)
    (ro_17 : rowB K [C0, C1, C2, C3, C4, C5, C6, C7, C8, C9, C10, C11, C12, C13, C14, C15, C16, C17, C18, C19, C20, C21] 17 = true)
    (xb_18 : xcB K C18 [.type "ArithmeticError", .type "Exception", .type "BaseException", .type "object"] "ArithmeticError.__new__" = true)
    (ro_18 : rowB K [C0, C1, C2, C3, C4, C5, C6, C7, C8, C9, C10, C11, C12, C13, C14, C15, C16, C17, C18, C19, C20, C21] 18 = true)
    (xb_19 : xcB K C19 [.type "ValueError", .type "Exception", .type "BaseException", .type "object"] "ValueError.__new__" = true)
    (ro_19 : rowB K [C0, C1, C2, C3, C4, C5, C6, C7, C8, C9, C10, C11, C12, C13, C14, C15, C16, C17, C18, C19, C20, C21] 19 = true)
    (xb_20 : xcB K C20 [.type "LookupError", .type "Exception", .type "BaseException", .type "object"] "LookupError.__new__" = true)
    (ro_20 : rowB K [C0, C1, C2, C3, C4, C5, C6, C7, C8, C9, C10, C11, C12, C13, C14, C15, C16, C17, C18, C19, C20, C21] 20 = true)
    (xb_21 : xcB K C21 [.type "ArithmeticError", .type "Exception", .type "BaseException", .type "object"] "ArithmeticError.__new__" = true)
    (ro_21 : rowB K [C0, C1, C2, C3, C4, C5, C6, C7, C8, C9, C10, C11, C12, C13, C14, C15, C16, C17, C18, C19, C20, C21] 21 = true)
    (aK0 : PySem.W.nsIn K mainGlobals "MOST_OHMS" = some (some (.int 12 t0)))
    (aK1 : PySem.W.nsIn K mainGlobals "MOST_PIECES" = some (some (.int 4 t1)))
    (aK2 : PySem.W.nsIn K mainGlobals "MOST_JOINED" = some (some (.int 8 t2)))
    (aK3 : PySem.W.nsIn K mainGlobals "MOST_KINDS" = some (some (.int 4 t3)))
    (aK4 : PySem.W.nsIn K mainGlobals "MOST_SECTIONS" = some (some (.int 100 t4)))
    (aK5 : PySem.W.nsIn K mainGlobals "LAST" = some (some (.int 1000 t5)))
    (aK6 : PySem.W.nsIn K mainGlobals "GREATEST" = some (some (.int 1000000000000 t6)))
    (aOp : PySem.W.nsIn K mainGlobals "OPEN" = some (some (.ref aO)))
    (lOp : K.lookup aO = some ⟨.type "tuple", odO, .seq #[.int 1 t7, .int 0 t8] nO, slO⟩)
    (cn : PySem.W.specialIn K (.builtin "object.__class__") "__get__" = some (some (.builtin "getset_descriptor.__get__")))
    (ct : PySem.W.takesIn K (.builtin "object.__class__") = some true)
    (z_len : PySem.W.nsIn K mainGlobals "len" = some none)
    (z_abs : PySem.W.nsIn K mainGlobals "abs" = some none)
    (z_int : PySem.W.nsIn K mainGlobals "int" = some none)
    (z_isinstance : PySem.W.nsIn K mainGlobals "isinstance" = some none)
    (z_divmod : PySem.W.nsIn K mainGlobals "divmod" = some none)
    (z_max : PySem.W.nsIn K mainGlobals "max" = some none)
    (z_min : PySem.W.nsIn K mainGlobals "min" = some none)
    (z_range : PySem.W.nsIn K mainGlobals "range" = some none)
    (z_all : PySem.W.nsIn K mainGlobals "all" = some none)
    (z_repr : PySem.W.nsIn K mainGlobals "repr" = some none)
    (z_enumerate : PySem.W.nsIn K mainGlobals "enumerate" = some none)
    (z_ValueError : PySem.W.nsIn K mainGlobals "ValueError" = some none)
    (z_LookupError : PySem.W.nsIn K mainGlobals "LookupError" = some none)
    (z_ArithmeticError : PySem.W.nsIn K mainGlobals "ArithmeticError" = some none) :
    ∃ fd : FuncData, (∀ (s : Shared) (v : Value), BindsTo s fd ⟨[v], []⟩ [("_law_script", v)]) ∧ ∀ base : Heap, K.In base → base.Ns mainGlobals mg → FnG l.prog w K mg base 6 fa fd ["_law_script"] (spLaw K) := by
  have e := hfa.symm.trans (PySem.W.mg_of X G a_law)
  cases e
  have T0 : Txt K mg := { len := PySem.W.mg_none_of X G z_len, abs := PySem.W.mg_none_of X G z_abs, int_ := PySem.W.mg_none_of X G z_int, isinstance := PySem.W.mg_none_of X G z_isinstance, divmod := PySem.W.mg_none_of X G z_divmod, max := PySem.W.mg_none_of X G z_max, min := PySem.W.mg_none_of X G z_min, range := PySem.W.mg_none_of X G z_range, all := PySem.W.mg_none_of X G z_all, repr := PySem.W.mg_none_of X G z_repr, enumerate := PySem.W.mg_none_of X G z_enumerate, ValueError := PySem.W.mg_none_of X G z_ValueError, LookupError := PySem.W.mg_none_of X G z_LookupError, ArithmeticError := PySem.W.mg_none_of X G z_ArithmeticError }
  have T : Tx K mg (cF [C0, C1, C2, C3, C4, C5, C6, C7, C8, C9, C10, C11, C12, C13, C14, C15, C16, C17, C18, C19, C20, C21]) aO (fun i => [t0, t1, t2, t3, t4, t5, t6].getD i t0) := { toTxt := T0, m0 := PySem.W.mg_of X G aC0, m1 := PySem.W.mg_of X G aC1, m2 := PySem.W.mg_of X G aC2, m3 := PySem.W.mg_of X G aC3, m4 := PySem.W.mg_of X G aC4, m5 := PySem.W.mg_of X G aC5, m6 := PySem.W.mg_of X G aC6, m7 := PySem.W.mg_of X G aC7, m8 := PySem.W.mg_of X G aC8, m9 := PySem.W.mg_of X G aC9, m10 := PySem.W.mg_of X G aC10, m11 := PySem.W.mg_of X G aC11, m12 := PySem.W.mg_of X G aC12, m13 := PySem.W.mg_of X G aC13, m14 := PySem.W.mg_of X G aC14, m15 := PySem.W.mg_of X G aC15, m16 := PySem.W.mg_of X G aC16, m17 := PySem.W.mg_of X G aC17, m18 := PySem.W.mg_of X G aC18, m19 := PySem.W.mg_of X G aC19, m20 := PySem.W.mg_of X G aC20, m21 := PySem.W.mg_of X G aC21, k0 := PySem.W.mg_of X G aK0, k1 := PySem.W.mg_of X G aK1, k2 := PySem.W.mg_of X G aK2, k3 := PySem.W.mg_of X G aK3, k4 := PySem.W.mg_of X G aK4, k5 := PySem.W.mg_of X G aK5, k6 := PySem.W.mg_of X G aK6, kO := PySem.W.mg_of X G aOp, sO := fun H => .inr ⟨_, #[.int 1 t7, .int 0 t8], nO, lOp, rfl, rfl, (by show 2 ≤ sizeLine; decide), .cons ⟨_, rfl⟩ (.cons ⟨_, rfl⟩ .nil)⟩ }
  have x0 : XC K C0 := xcB_ok PySem.F.excBase_ValueError PySem.F.store_ValueError xb_0
  have x1 : XC K C1 := xcB_ok PySem.F.excBase_ValueError PySem.F.store_ValueError xb_1
  have x2 : XC K C2 := xcB_ok PySem.F.excBase_ValueError PySem.F.store_ValueError xb_2
  have x3 : XC K C3 := xcB_ok PySem.F.excBase_ValueError PySem.F.store_ValueError xb_3
  have x4 : XC K C4 := xcB_ok PySem.F.excBase_ValueError PySem.F.store_ValueError xb_4
  have x5 : XC K C5 := xcB_ok PySem.F.excBase_ValueError PySem.F.store_ValueError xb_5
  have x6 : XC K C6 := xcB_ok PySem.F.excBase_ValueError PySem.F.store_ValueError xb_6
  have x7 : XC K C7 := xcB_ok PySem.F.excBase_ValueError PySem.F.store_ValueError xb_7
  have x8 : XC K C8 := xcB_ok PySem.F.excBase_ValueError PySem.F.store_ValueError xb_8
  have x9 : XC K C9 := xcB_ok PySem.F.excBase_ValueError PySem.F.store_ValueError xb_9
  have x10 : XC K C10 := xcB_ok PySem.F.excBase_ValueError PySem.F.store_ValueError xb_10
  have x11 : XC K C11 := xcB_ok PySem.F.excBase_ValueError PySem.F.store_ValueError xb_11
  have x12 : XC K C12 := xcB_ok PySem.F.excBase_ValueError PySem.F.store_ValueError xb_12
  have x13 : XC K C13 := xcB_ok PySem.F.excBase_LookupError PySem.F.store_LookupError xb_13
  have x14 : XC K C14 := xcB_ok PySem.F.excBase_LookupError PySem.F.store_LookupError xb_14
  have x15 : XC K C15 := xcB_ok PySem.F.excBase_ArithmeticError PySem.F.store_ArithmeticError xb_15
  have x16 : XC K C16 := xcB_ok PySem.F.excBase_ArithmeticError PySem.F.store_ArithmeticError xb_16
  have x17 : XC K C17 := xcB_ok PySem.F.excBase_ArithmeticError PySem.F.store_ArithmeticError xb_17
  have x18 : XC K C18 := xcB_ok PySem.F.excBase_ArithmeticError PySem.F.store_ArithmeticError xb_18
  have x19 : XC K C19 := xcB_ok PySem.F.excBase_ValueError PySem.F.store_ValueError xb_19
  have x20 : XC K C20 := xcB_ok PySem.F.excBase_LookupError PySem.F.store_LookupError xb_20
  have x21 : XC K C21 := xcB_ok PySem.F.excBase_ArithmeticError PySem.F.store_ArithmeticError xb_21
  have R : Rs K (cF [C0, C1, C2, C3, C4, C5, C6, C7, C8, C9, C10, C11, C12, C13, C14, C15, C16, C17, C18, C19, C20, C21]) := ⟨below22 (Z := fun i => XC K (cF [C0, C1, C2, C3, C4, C5, C6, C7, C8, C9, C10, C11, C12, C13, C14, C15, C16, C17, C18, C19, C20, C21] i)) x0 x1 x2 x3 x4 x5 x6 x7 x8 x9 x10 x11 x12 x13 x14 x15 x16 x17 x18 x19 x20 x21, below22 (Z := fun i => IsRow K (cF [C0, C1, C2, C3, C4, C5, C6, C7, C8, C9, C10, C11, C12, C13, C14, C15, C16, C17, C18, C19, C20, C21]) (cF [C0, C1, C2, C3, C4, C5, C6, C7, C8, C9, C10, C11, C12, C13, C14, C15, C16, C17, C18, C19, C20, C21] i) (tb i)) (rowB_ok ro_0) (rowB_ok ro_1) (rowB_ok ro_2) (rowB_ok ro_3) (rowB_ok ro_4) (rowB_ok ro_5) (rowB_ok ro_6) (rowB_ok ro_7) (rowB_ok ro_8) (rowB_ok ro_9) (rowB_ok ro_10) (rowB_ok ro_11) (rowB_ok ro_12) (rowB_ok ro_13) (rowB_ok ro_14) (rowB_ok ro_15) (rowB_ok ro_16) (rowB_ok ro_17) (rowB_ok ro_18) (rowB_ok ro_19) (rowB_ok ro_20) (rowB_ok ro_21)⟩
  have Z : XK0 K := ⟨cn, ct⟩
  refine ⟨PySem.W.fnOf "law" "law" (defArgs s_law) (defBody s_law) (defScope s_law) .none kV_law dc_law pm_law an_law cd_law ct_law, fun s v => .of_eq rfl, fun base _ _ => ?_⟩
  have F_WrongValue_init := fun_mk (st := s_WrongValue_init) l_WrongValue_init c_WrongValue_init k_WrongValue_init
  have b_WrongValue_init := F_WrongValue_init.binds (ps := ["self"]) fun _ _ _ _ _ _ us hl => match us, hl with | [_], _ => rfl
  have B19 : Bi l.prog w K mg base "WrongValue" := ⟨C19, f_WrongValue_init, .type "type", _, PySem.W.mg_of X G aC19, ⟨rd_19, ga_19⟩, fc_19, k_WrongValue_init, ok_WrongValue_init F_WrongValue_init, b_WrongValue_init⟩
  have F_WrongName_init := fun_mk (st := s_WrongName_init) l_WrongName_init c_WrongName_init k_WrongName_init
  have b_WrongName_init := F_WrongName_init.binds (ps := ["self"]) fun _ _ _ _ _ _ us hl => match us, hl with | [_], _ => rfl
  have B20 : Bi l.prog w K mg base "WrongName" := ⟨C20, f_WrongName_init, .type "type", _, PySem.W.mg_of X G aC20, ⟨rd_20, ga_20⟩, fc_20, k_WrongName_init, ok_WrongName_init F_WrongName_init, b_WrongName_init⟩
  have F_NoAnswer_init := fun_mk (st := s_NoAnswer_init) l_NoAnswer_init c_NoAnswer_init k_NoAnswer_init
  have b_NoAnswer_init := F_NoAnswer_init.binds (ps := ["self"]) fun _ _ _ _ _ _ us hl => match us, hl with | [_], _ => rfl
  have B21 : Bi l.prog w K mg base "NoAnswer" := ⟨C21, f_NoAnswer_init, .type "type", _, PySem.W.mg_of X G aC21, ⟨rd_21, ga_21⟩, fc_21, k_NoAnswer_init, ok_NoAnswer_init F_NoAnswer_init, b_NoAnswer_init⟩
  have F_NotAPattern_init := fun_mk (st := s_NotAPattern_init) l_NotAPattern_init c_NotAPattern_init k_NotAPattern_init
  have b_NotAPattern_init := F_NotAPattern_init.binds (ps := ["self", "given"]) fun _ _ _ _ _ _ us hl => match us, hl with | [_, _], _ => rfl
  have M0 : XM l.prog w K mg base 2 C0 ["self", "given"] (spI K "given") := ⟨x0, f_NotAPattern_init, _, a_NotAPattern_init, i_NotAPattern_init, ok_NotAPattern_init F_NotAPattern_init B19, b_NotAPattern_init, fun y z e => by
    cases e
    exact ⟨fun s us ws _ h1 h2 => match us, h1, ws, h2 with | [_], _, [_], _ => BindsTo.of_eq (fd := PySem.W.fnOf "__init__" "NotAPattern.__init__" (defArgs s_NotAPattern_init) (defBody s_NotAPattern_init) (defScope s_NotAPattern_init) .none kV_NotAPattern_init dc_NotAPattern_init pm_NotAPattern_init an_NotAPattern_init cd_NotAPattern_init ct_NotAPattern_init) rfl, fun r1 r2 => r1.append r2⟩⟩
  have F_NotARun_init := fun_mk (st := s_NotARun_init) l_NotARun_init c_NotARun_init k_NotARun_init
  have b_NotARun_init := F_NotARun_init.binds (ps := ["self", "given"]) fun _ _ _ _ _ _ us hl => match us, hl with | [_, _], _ => rfl
  have M1 : XM l.prog w K mg base 2 C1 ["self", "given"] (spI K "given") := ⟨x1, f_NotARun_init, _, a_NotARun_init, i_NotARun_init, ok_NotARun_init F_NotARun_init B19, b_NotARun_init, fun y z e => by
    cases e
    exact ⟨fun s us ws _ h1 h2 => match us, h1, ws, h2 with | [_], _, [_], _ => BindsTo.of_eq (fd := PySem.W.fnOf "__init__" "NotARun.__init__" (defArgs s_NotARun_init) (defBody s_NotARun_init) (defScope s_NotARun_init) .none kV_NotARun_init dc_NotARun_init pm_NotARun_init an_NotARun_init cd_NotARun_init ct_NotARun_init) rfl, fun r1 r2 => r1.append r2⟩⟩
  have F_InvalidResistance_init := fun_mk (st := s_InvalidResistance_init) l_InvalidResistance_init c_InvalidResistance_init k_InvalidResistance_init
  have b_InvalidResistance_init := F_InvalidResistance_init.binds (ps := ["self", "given"]) fun _ _ _ _ _ _ us hl => match us, hl with | [_, _], _ => rfl
  have M2 : XM l.prog w K mg base 2 C2 ["self", "given"] (spI K "given") := ⟨x2, f_InvalidResistance_init, _, a_InvalidResistance_init, i_InvalidResistance_init, ok_InvalidResistance_init F_InvalidResistance_init B19, b_InvalidResistance_init, fun y z e => by
    cases e
    exact ⟨fun s us ws _ h1 h2 => match us, h1, ws, h2 with | [_], _, [_], _ => BindsTo.of_eq (fd := PySem.W.fnOf "__init__" "InvalidResistance.__init__" (defArgs s_InvalidResistance_init) (defBody s_InvalidResistance_init) (defScope s_InvalidResistance_init) .none kV_InvalidResistance_init dc_InvalidResistance_init pm_InvalidResistance_init an_InvalidResistance_init cd_InvalidResistance_init ct_InvalidResistance_init) rfl, fun r1 r2 => r1.append r2⟩⟩
  have F_InvalidCount_init := fun_mk (st := s_InvalidCount_init) l_InvalidCount_init c_InvalidCount_init k_InvalidCount_init
  have b_InvalidCount_init := F_InvalidCount_init.binds (ps := ["self", "given"]) fun _ _ _ _ _ _ us hl => match us, hl with | [_, _], _ => rfl
  have M3 : XM l.prog w K mg base 2 C3 ["self", "given"] (spI K "given") := ⟨x3, f_InvalidCount_init, _, a_InvalidCount_init, i_InvalidCount_init, ok_InvalidCount_init F_InvalidCount_init B19, b_InvalidCount_init, fun y z e => by
    cases e
    exact ⟨fun s us ws _ h1 h2 => match us, h1, ws, h2 with | [_], _, [_], _ => BindsTo.of_eq (fd := PySem.W.fnOf "__init__" "InvalidCount.__init__" (defArgs s_InvalidCount_init) (defBody s_InvalidCount_init) (defScope s_InvalidCount_init) .none kV_InvalidCount_init dc_InvalidCount_init pm_InvalidCount_init an_InvalidCount_init cd_InvalidCount_init ct_InvalidCount_init) rfl, fun r1 r2 => r1.append r2⟩⟩
  have F_InvalidNumber_init := fun_mk (st := s_InvalidNumber_init) l_InvalidNumber_init c_InvalidNumber_init k_InvalidNumber_init
  have b_InvalidNumber_init := F_InvalidNumber_init.binds (ps := ["self", "given"]) fun _ _ _ _ _ _ us hl => match us, hl with | [_, _], _ => rfl
  have M4 : XM l.prog w K mg base 2 C4 ["self", "given"] (spI K "given") := ⟨x4, f_InvalidNumber_init, _, a_InvalidNumber_init, i_InvalidNumber_init, ok_InvalidNumber_init F_InvalidNumber_init B19, b_InvalidNumber_init, fun y z e => by
    cases e
    exact ⟨fun s us ws _ h1 h2 => match us, h1, ws, h2 with | [_], _, [_], _ => BindsTo.of_eq (fd := PySem.W.fnOf "__init__" "InvalidNumber.__init__" (defArgs s_InvalidNumber_init) (defBody s_InvalidNumber_init) (defScope s_InvalidNumber_init) .none kV_InvalidNumber_init dc_InvalidNumber_init pm_InvalidNumber_init an_InvalidNumber_init cd_InvalidNumber_init ct_InvalidNumber_init) rfl, fun r1 r2 => r1.append r2⟩⟩
  have F_InvalidText_init := fun_mk (st := s_InvalidText_init) l_InvalidText_init c_InvalidText_init k_InvalidText_init
  have b_InvalidText_init := F_InvalidText_init.binds (ps := ["self", "given"]) fun _ _ _ _ _ _ us hl => match us, hl with | [_, _], _ => rfl
  have M5 : XM l.prog w K mg base 2 C5 ["self", "given"] (spI K "given") := ⟨x5, f_InvalidText_init, _, a_InvalidText_init, i_InvalidText_init, ok_InvalidText_init F_InvalidText_init B19, b_InvalidText_init, fun y z e => by
    cases e
    exact ⟨fun s us ws _ h1 h2 => match us, h1, ws, h2 with | [_], _, [_], _ => BindsTo.of_eq (fd := PySem.W.fnOf "__init__" "InvalidText.__init__" (defArgs s_InvalidText_init) (defBody s_InvalidText_init) (defScope s_InvalidText_init) .none kV_InvalidText_init dc_InvalidText_init pm_InvalidText_init an_InvalidText_init cd_InvalidText_init ct_InvalidText_init) rfl, fun r1 r2 => r1.append r2⟩⟩
  have F_InvalidName_init := fun_mk (st := s_InvalidName_init) l_InvalidName_init c_InvalidName_init k_InvalidName_init
  have b_InvalidName_init := F_InvalidName_init.binds (ps := ["self", "given"]) fun _ _ _ _ _ _ us hl => match us, hl with | [_, _], _ => rfl
  have M6 : XM l.prog w K mg base 2 C6 ["self", "given"] (spI K "given") := ⟨x6, f_InvalidName_init, _, a_InvalidName_init, i_InvalidName_init, ok_InvalidName_init F_InvalidName_init B19, b_InvalidName_init, fun y z e => by
    cases e
    exact ⟨fun s us ws _ h1 h2 => match us, h1, ws, h2 with | [_], _, [_], _ => BindsTo.of_eq (fd := PySem.W.fnOf "__init__" "InvalidName.__init__" (defArgs s_InvalidName_init) (defBody s_InvalidName_init) (defScope s_InvalidName_init) .none kV_InvalidName_init dc_InvalidName_init pm_InvalidName_init an_InvalidName_init cd_InvalidName_init ct_InvalidName_init) rfl, fun r1 r2 => r1.append r2⟩⟩
  have F_InvalidClaim_init := fun_mk (st := s_InvalidClaim_init) l_InvalidClaim_init c_InvalidClaim_init k_InvalidClaim_init
  have b_InvalidClaim_init := F_InvalidClaim_init.binds (ps := ["self", "given"]) fun _ _ _ _ _ _ us hl => match us, hl with | [_, _], _ => rfl
  have M7 : XM l.prog w K mg base 2 C7 ["self", "given"] (spI K "given") := ⟨x7, f_InvalidClaim_init, _, a_InvalidClaim_init, i_InvalidClaim_init, ok_InvalidClaim_init F_InvalidClaim_init B19, b_InvalidClaim_init, fun y z e => by
    cases e
    exact ⟨fun s us ws _ h1 h2 => match us, h1, ws, h2 with | [_], _, [_], _ => BindsTo.of_eq (fd := PySem.W.fnOf "__init__" "InvalidClaim.__init__" (defArgs s_InvalidClaim_init) (defBody s_InvalidClaim_init) (defScope s_InvalidClaim_init) .none kV_InvalidClaim_init dc_InvalidClaim_init pm_InvalidClaim_init an_InvalidClaim_init cd_InvalidClaim_init ct_InvalidClaim_init) rfl, fun r1 r2 => r1.append r2⟩⟩
  have F_InvalidIndex_init := fun_mk (st := s_InvalidIndex_init) l_InvalidIndex_init c_InvalidIndex_init k_InvalidIndex_init
  have b_InvalidIndex_init := F_InvalidIndex_init.binds (ps := ["self", "given"]) fun _ _ _ _ _ _ us hl => match us, hl with | [_, _], _ => rfl
  have M8 : XM l.prog w K mg base 2 C8 ["self", "given"] (spI K "given") := ⟨x8, f_InvalidIndex_init, _, a_InvalidIndex_init, i_InvalidIndex_init, ok_InvalidIndex_init F_InvalidIndex_init B19, b_InvalidIndex_init, fun y z e => by
    cases e
    exact ⟨fun s us ws _ h1 h2 => match us, h1, ws, h2 with | [_], _, [_], _ => BindsTo.of_eq (fd := PySem.W.fnOf "__init__" "InvalidIndex.__init__" (defArgs s_InvalidIndex_init) (defBody s_InvalidIndex_init) (defScope s_InvalidIndex_init) .none kV_InvalidIndex_init dc_InvalidIndex_init pm_InvalidIndex_init an_InvalidIndex_init cd_InvalidIndex_init ct_InvalidIndex_init) rfl, fun r1 r2 => r1.append r2⟩⟩
  have F_InvalidPieces_init := fun_mk (st := s_InvalidPieces_init) l_InvalidPieces_init c_InvalidPieces_init k_InvalidPieces_init
  have b_InvalidPieces_init := F_InvalidPieces_init.binds (ps := ["self", "index"]) fun _ _ _ _ _ _ us hl => match us, hl with | [_, _], _ => rfl
  have M9 : XM l.prog w K mg base 2 C9 ["self", "index"] (spI K "index") := ⟨x9, f_InvalidPieces_init, _, a_InvalidPieces_init, i_InvalidPieces_init, ok_InvalidPieces_init F_InvalidPieces_init B19, b_InvalidPieces_init, fun y z e => by
    cases e
    exact ⟨fun s us ws _ h1 h2 => match us, h1, ws, h2 with | [_], _, [_], _ => BindsTo.of_eq (fd := PySem.W.fnOf "__init__" "InvalidPieces.__init__" (defArgs s_InvalidPieces_init) (defBody s_InvalidPieces_init) (defScope s_InvalidPieces_init) .none kV_InvalidPieces_init dc_InvalidPieces_init pm_InvalidPieces_init an_InvalidPieces_init cd_InvalidPieces_init ct_InvalidPieces_init) rfl, fun r1 r2 => r1.append r2⟩⟩
  have F_InvalidKinds_init := fun_mk (st := s_InvalidKinds_init) l_InvalidKinds_init c_InvalidKinds_init k_InvalidKinds_init
  have b_InvalidKinds_init := F_InvalidKinds_init.binds (ps := ["self", "index"]) fun _ _ _ _ _ _ us hl => match us, hl with | [_, _], _ => rfl
  have M10 : XM l.prog w K mg base 2 C10 ["self", "index"] (spI K "index") := ⟨x10, f_InvalidKinds_init, _, a_InvalidKinds_init, i_InvalidKinds_init, ok_InvalidKinds_init F_InvalidKinds_init B19, b_InvalidKinds_init, fun y z e => by
    cases e
    exact ⟨fun s us ws _ h1 h2 => match us, h1, ws, h2 with | [_], _, [_], _ => BindsTo.of_eq (fd := PySem.W.fnOf "__init__" "InvalidKinds.__init__" (defArgs s_InvalidKinds_init) (defBody s_InvalidKinds_init) (defScope s_InvalidKinds_init) .none kV_InvalidKinds_init dc_InvalidKinds_init pm_InvalidKinds_init an_InvalidKinds_init cd_InvalidKinds_init ct_InvalidKinds_init) rfl, fun r1 r2 => r1.append r2⟩⟩
  have F_InvalidStretches_init := fun_mk (st := s_InvalidStretches_init) l_InvalidStretches_init c_InvalidStretches_init k_InvalidStretches_init
  have b_InvalidStretches_init := F_InvalidStretches_init.binds (ps := ["self", "index"]) fun _ _ _ _ _ _ us hl => match us, hl with | [_, _], _ => rfl
  have M11 : XM l.prog w K mg base 2 C11 ["self", "index"] (spI K "index") := ⟨x11, f_InvalidStretches_init, _, a_InvalidStretches_init, i_InvalidStretches_init, ok_InvalidStretches_init F_InvalidStretches_init B19, b_InvalidStretches_init, fun y z e => by
    cases e
    exact ⟨fun s us ws _ h1 h2 => match us, h1, ws, h2 with | [_], _, [_], _ => BindsTo.of_eq (fd := PySem.W.fnOf "__init__" "InvalidStretches.__init__" (defArgs s_InvalidStretches_init) (defBody s_InvalidStretches_init) (defScope s_InvalidStretches_init) .none kV_InvalidStretches_init dc_InvalidStretches_init pm_InvalidStretches_init an_InvalidStretches_init cd_InvalidStretches_init ct_InvalidStretches_init) rfl, fun r1 r2 => r1.append r2⟩⟩
  have F_InvalidDeeds_init := fun_mk (st := s_InvalidDeeds_init) l_InvalidDeeds_init c_InvalidDeeds_init k_InvalidDeeds_init
  have b_InvalidDeeds_init := F_InvalidDeeds_init.binds (ps := ["self", "index"]) fun _ _ _ _ _ _ us hl => match us, hl with | [_, _], _ => rfl
  have M12 : XM l.prog w K mg base 2 C12 ["self", "index"] (spI K "index") := ⟨x12, f_InvalidDeeds_init, _, a_InvalidDeeds_init, i_InvalidDeeds_init, ok_InvalidDeeds_init F_InvalidDeeds_init B19, b_InvalidDeeds_init, fun y z e => by
    cases e
    exact ⟨fun s us ws _ h1 h2 => match us, h1, ws, h2 with | [_], _, [_], _ => BindsTo.of_eq (fd := PySem.W.fnOf "__init__" "InvalidDeeds.__init__" (defArgs s_InvalidDeeds_init) (defBody s_InvalidDeeds_init) (defScope s_InvalidDeeds_init) .none kV_InvalidDeeds_init dc_InvalidDeeds_init pm_InvalidDeeds_init an_InvalidDeeds_init cd_InvalidDeeds_init ct_InvalidDeeds_init) rfl, fun r1 r2 => r1.append r2⟩⟩
  have F_UnknownName_init := fun_mk (st := s_UnknownName_init) l_UnknownName_init c_UnknownName_init k_UnknownName_init
  have b_UnknownName_init := F_UnknownName_init.binds (ps := ["self", "given"]) fun _ _ _ _ _ _ us hl => match us, hl with | [_, _], _ => rfl
  have M13 : XM l.prog w K mg base 2 C13 ["self", "given"] (spI K "given") := ⟨x13, f_UnknownName_init, _, a_UnknownName_init, i_UnknownName_init, ok_UnknownName_init F_UnknownName_init B20, b_UnknownName_init, fun y z e => by
    cases e
    exact ⟨fun s us ws _ h1 h2 => match us, h1, ws, h2 with | [_], _, [_], _ => BindsTo.of_eq (fd := PySem.W.fnOf "__init__" "UnknownName.__init__" (defArgs s_UnknownName_init) (defBody s_UnknownName_init) (defScope s_UnknownName_init) .none kV_UnknownName_init dc_UnknownName_init pm_UnknownName_init an_UnknownName_init cd_UnknownName_init ct_UnknownName_init) rfl, fun r1 r2 => r1.append r2⟩⟩
  have F_InUse_init := fun_mk (st := s_InUse_init) l_InUse_init c_InUse_init k_InUse_init
  have b_InUse_init := F_InUse_init.binds (ps := ["self", "index"]) fun _ _ _ _ _ _ us hl => match us, hl with | [_, _], _ => rfl
  have M14 : XM l.prog w K mg base 2 C14 ["self", "index"] (spI K "index") := ⟨x14, f_InUse_init, _, a_InUse_init, i_InUse_init, ok_InUse_init F_InUse_init B20, b_InUse_init, fun y z e => by
    cases e
    exact ⟨fun s us ws _ h1 h2 => match us, h1, ws, h2 with | [_], _, [_], _ => BindsTo.of_eq (fd := PySem.W.fnOf "__init__" "InUse.__init__" (defArgs s_InUse_init) (defBody s_InUse_init) (defScope s_InUse_init) .none kV_InUse_init dc_InUse_init pm_InUse_init an_InUse_init cd_InUse_init ct_InUse_init) rfl, fun r1 r2 => r1.append r2⟩⟩
  have F_TooMany_init := fun_mk (st := s_TooMany_init) l_TooMany_init c_TooMany_init k_TooMany_init
  have b_TooMany_init := F_TooMany_init.binds (ps := ["self", "most"]) fun _ _ _ _ _ _ us hl => match us, hl with | [_, _], _ => rfl
  have M15 : XM l.prog w K mg base 2 C15 ["self", "most"] (spI K "most") := ⟨x15, f_TooMany_init, _, a_TooMany_init, i_TooMany_init, ok_TooMany_init F_TooMany_init B21, b_TooMany_init, fun y z e => by
    cases e
    exact ⟨fun s us ws _ h1 h2 => match us, h1, ws, h2 with | [_], _, [_], _ => BindsTo.of_eq (fd := PySem.W.fnOf "__init__" "TooMany.__init__" (defArgs s_TooMany_init) (defBody s_TooMany_init) (defScope s_TooMany_init) .none kV_TooMany_init dc_TooMany_init pm_TooMany_init an_TooMany_init cd_TooMany_init ct_TooMany_init) rfl, fun r1 r2 => r1.append r2⟩⟩
  have F_Broken_init := fun_mk (st := s_Broken_init) l_Broken_init c_Broken_init k_Broken_init
  have b_Broken_init := F_Broken_init.binds (ps := ["self", "index"]) fun _ _ _ _ _ _ us hl => match us, hl with | [_, _], _ => rfl
  have M16 : XM l.prog w K mg base 2 C16 ["self", "index"] (spI K "index") := ⟨x16, f_Broken_init, _, a_Broken_init, i_Broken_init, ok_Broken_init F_Broken_init B21, b_Broken_init, fun y z e => by
    cases e
    exact ⟨fun s us ws _ h1 h2 => match us, h1, ws, h2 with | [_], _, [_], _ => BindsTo.of_eq (fd := PySem.W.fnOf "__init__" "Broken.__init__" (defArgs s_Broken_init) (defBody s_Broken_init) (defScope s_Broken_init) .none kV_Broken_init dc_Broken_init pm_Broken_init an_Broken_init cd_Broken_init ct_Broken_init) rfl, fun r1 r2 => r1.append r2⟩⟩
  have M17 : XM l.prog w K mg base 1 C17 ["self"] spN := ⟨x17, f_NoAnswer_init, _, ai_17, i_NoAnswer_init, ok_NoAnswer_init F_NoAnswer_init, b_NoAnswer_init, fun y z e => by cases e⟩
  have M18 : XM l.prog w K mg base 1 C18 ["self"] spN := ⟨x18, f_NoAnswer_init, _, ai_18, i_NoAnswer_init, ok_NoAnswer_init F_NoAnswer_init, b_NoAnswer_init, fun y z e => by cases e⟩
  have M19 : XM l.prog w K mg base 1 C19 ["self"] spN := ⟨x19, f_WrongValue_init, _, a_WrongValue_init, i_WrongValue_init, ok_WrongValue_init F_WrongValue_init, b_WrongValue_init, fun y z e => by cases e⟩
  have M20 : XM l.prog w K mg base 1 C20 ["self"] spN := ⟨x20, f_WrongName_init, _, a_WrongName_init, i_WrongName_init, ok_WrongName_init F_WrongName_init, b_WrongName_init, fun y z e => by cases e⟩
  have M21 : XM l.prog w K mg base 1 C21 ["self"] spN := ⟨x21, f_NoAnswer_init, _, a_NoAnswer_init, i_NoAnswer_init, ok_NoAnswer_init F_NoAnswer_init, b_NoAnswer_init, fun y z e => by cases e⟩
  have M : Ms l.prog w K mg base (cF [C0, C1, C2, C3, C4, C5, C6, C7, C8, C9, C10, C11, C12, C13, C14, C15, C16, C17, C18, C19, C20, C21]) := { m0 := M0, m1 := M1, m2 := M2, m3 := M3, m4 := M4, m5 := M5, m6 := M6, m7 := M7, m8 := M8, m9 := M9, m10 := M10, m11 := M11, m12 := M12, m13 := M13, m14 := M14, m15 := M15, m16 := M16, m17 := M17, m18 := M18, m19 := M19, m20 := M20, m21 := M21 }
  have F_law_sip := fun_mk (st := s_law_sip) l_law_sip c_law_sip k_law_sip
  have b_law_sip := F_law_sip.binds (ps := ["_law_cup_here", "_law_many"]) fun _ _ _ _ _ _ us hl => match us, hl with | [_, _], _ => rfl
  have D_law_sip : Df l.prog w K mg base 1 "_law_sip" ["_law_cup_here", "_law_many"] spSip := ⟨_, _, ok_sip F_law_sip T0, PySem.W.mg_of X G a_law_sip, k_law_sip, b_law_sip⟩
  have F_law_pick := fun_mk (st := s_law_pick) l_law_pick c_law_pick k_law_pick
  have b_law_pick := F_law_pick.binds (ps := ["_law_cup_here", "_law_things"]) fun _ _ _ _ _ _ us hl => match us, hl with | [_, _], _ => rfl
  have D_law_pick : Df l.prog w K mg base 2 "_law_pick" ["_law_cup_here", "_law_things"] spPick := ⟨_, _, ok_pick F_law_pick T0 D_law_sip, PySem.W.mg_of X G a_law_pick, k_law_pick, b_law_pick⟩
  have F_law_cup := fun_mk (st := s_law_cup) l_law_cup c_law_cup k_law_cup
  have b_law_cup := F_law_cup.binds (ps := ["_law_script", "_law_spot"]) fun _ _ _ _ _ _ us hl => match us, hl with | [_, _], _ => rfl
  have D_law_cup : Df l.prog w K mg base 1 "_law_cup" ["_law_script", "_law_spot"] (spCup K) := ⟨_, _, ok_cup F_law_cup T0, PySem.W.mg_of X G a_law_cup, k_law_cup, b_law_cup⟩
  have F_law_classes := fun_mk (st := s_law_classes) l_law_classes c_law_classes k_law_classes
  have b_law_classes := F_law_classes.binds (ps := ["_law_e"]) fun _ _ _ _ _ _ us hl => match us, hl with | [_], _ => rfl
  have D_law_classes : Df l.prog w K mg base 1 "_law_classes" ["_law_e"] (spClasses K (cF [C0, C1, C2, C3, C4, C5, C6, C7, C8, C9, C10, C11, C12, C13, C14, C15, C16, C17, C18, C19, C20, C21])) := ⟨_, _, ok_classes F_law_classes T Z, PySem.W.mg_of X G a_law_classes, k_law_classes, b_law_classes⟩
  have F_law_given := fun_mk (st := s_law_given) l_law_given c_law_given k_law_given
  have b_law_given := F_law_given.binds (ps := ["_law_thing"]) fun _ _ _ _ _ _ us hl => match us, hl with | [_], _ => rfl
  have D_law_given : Df l.prog w K mg base 4 "_law_given" ["_law_thing"] (spMany (cF [C0, C1, C2, C3, C4, C5, C6, C7, C8, C9, C10, C11, C12, C13, C14, C15, C16, C17, C18, C19, C20, C21]) 0 9 "given") := ⟨_, _, ok_given F_law_given T M, PySem.W.mg_of X G a_law_given, k_law_given, b_law_given⟩
  have F_law_indexed := fun_mk (st := s_law_indexed) l_law_indexed c_law_indexed k_law_indexed
  have b_law_indexed := F_law_indexed.binds (ps := ["_law_thing"]) fun _ _ _ _ _ _ us hl => match us, hl with | [_], _ => rfl
  have D_law_indexed : Df l.prog w K mg base 4 "_law_indexed" ["_law_thing"] (spMany (cF [C0, C1, C2, C3, C4, C5, C6, C7, C8, C9, C10, C11, C12, C13, C14, C15, C16, C17, C18, C19, C20, C21]) 9 4 "index") := ⟨_, _, ok_indexed F_law_indexed T M, PySem.W.mg_of X G a_law_indexed, k_law_indexed, b_law_indexed⟩
  have F_law_right := fun_mk (st := s_law_right) l_law_right c_law_right k_law_right
  have b_law_right := F_law_right.binds (ps := ["_law_cup_here"]) fun _ _ _ _ _ _ us hl => match us, hl with | [_], _ => rfl
  have D_law_right : DfG l.prog w K mg base 5 "_law_right" ["_law_cup_here"] spRight := ⟨_, _, ok_right F_law_right T M R D_law_pick D_law_classes D_law_given D_law_indexed, PySem.W.mg_of X G a_law_right, k_law_right, b_law_right⟩
  exact ok_law (fun_mk (st := s_law) l_law c_law k_law) T M R D_law_classes D_law_cup D_law_right
end RL

open PySem PySem.W PyProof.Rows
set_option maxRecDepth 100000 in
set_option maxHeartbeats 0 in
theorem PySem.Challenge.cw_rungladders_k01_constants_and_errors_holds : PySem.Challenge.rw_rungladders_k01_constants_and_errors.Holds := by
  w_on; o_law; k_head; (case hw => w_witness2)
  k_fill
  refine RL.walk_ofG (l := PySem.Challenge.rw_rungladders_k01_constants_and_errors) (n := 63) (k := 6) (x := "_law_script") (sp := fun w => RL.spLaw _) rfl (by decide) rfl ⟨rfl, by decide, by decide⟩ (fun w h Y => PySem.W.kIn_of Y) ?F (fun _ _ a ns hl _ hS => ⟨a, ns, rfl, hS, hl, fun _ => rfl⟩)
  case F =>
    intro w mg fa h KX G hmg
    refine' RL.all_mk KX G hmg ?aC0 ?aC1 ?aC2 ?aC3 ?aC4 ?aC5 ?aC6 ?aC7 ?aC8 ?aC9 ?aC10 ?aC11 ?aC12 ?aC13 ?aC14 ?aC15 ?aC16 ?aC17 ?aC18 ?aC19 ?aC20 ?aC21 ?a_law_sip ?l_law_sip ?c_law_sip ?k_law_sip ?a_law_pick ?l_law_pick ?c_law_pick ?k_law_pick ?a_law_cup ?l_law_cup ?c_law_cup ?k_law_cup ?a_law_classes ?l_law_classes ?c_law_classes ?k_law_classes ?a_law_given ?l_law_given ?c_law_given ?k_law_given ?a_law_indexed ?l_law_indexed ?c_law_indexed ?k_law_indexed ?a_law_right ?l_law_right ?c_law_right ?k_law_right ?a_law ?l_law ?c_law ?k_law ?a_NotAPattern_init ?i_NotAPattern_init ?l_NotAPattern_init ?c_NotAPattern_init ?k_NotAPattern_init ?a_NotARun_init ?i_NotARun_init ?l_NotARun_init ?c_NotARun_init ?k_NotARun_init ?a_InvalidResistance_init ?i_InvalidResistance_init ?l_InvalidResistance_init ?c_InvalidResistance_init ?k_InvalidResistance_init ?a_InvalidCount_init ?i_InvalidCount_init ?l_InvalidCount_init ?c_InvalidCount_init ?k_InvalidCount_init ?a_InvalidNumber_init ?i_InvalidNumber_init ?l_InvalidNumber_init ?c_InvalidNumber_init ?k_InvalidNumber_init ?a_InvalidText_init ?i_InvalidText_init ?l_InvalidText_init ?c_InvalidText_init ?k_InvalidText_init ?a_InvalidName_init ?i_InvalidName_init ?l_InvalidName_init ?c_InvalidName_init ?k_InvalidName_init ?a_InvalidClaim_init ?i_InvalidClaim_init ?l_InvalidClaim_init ?c_InvalidClaim_init ?k_InvalidClaim_init ?a_InvalidIndex_init ?i_InvalidIndex_init ?l_InvalidIndex_init ?c_InvalidIndex_init ?k_InvalidIndex_init ?a_InvalidPieces_init ?i_InvalidPieces_init ?l_InvalidPieces_init ?c_InvalidPieces_init ?k_InvalidPieces_init ?a_InvalidKinds_init ?i_InvalidKinds_init ?l_InvalidKinds_init ?c_InvalidKinds_init ?k_InvalidKinds_init ?a_InvalidStretches_init ?i_InvalidStretches_init ?l_InvalidStretches_init ?c_InvalidStretches_init ?k_InvalidStretches_init ?a_InvalidDeeds_init ?i_InvalidDeeds_init ?l_InvalidDeeds_init ?c_InvalidDeeds_init ?k_InvalidDeeds_init ?a_UnknownName_init ?i_UnknownName_init ?l_UnknownName_init ?c_UnknownName_init ?k_UnknownName_init ?a_InUse_init ?i_InUse_init ?l_InUse_init ?c_InUse_init ?k_InUse_init ?a_TooMany_init ?i_TooMany_init ?l_TooMany_init ?c_TooMany_init ?k_TooMany_init ?a_Broken_init ?i_Broken_init ?l_Broken_init ?c_Broken_init ?k_Broken_init ?a_WrongValue_init ?i_WrongValue_init ?l_WrongValue_init ?c_WrongValue_init ?k_WrongValue_init ?a_WrongName_init ?i_WrongName_init ?l_WrongName_init ?c_WrongName_init ?k_WrongName_init ?a_NoAnswer_init ?i_NoAnswer_init ?l_NoAnswer_init ?c_NoAnswer_init ?k_NoAnswer_init ?ai_17 ?ai_18 ?rd_19 ?ga_19 ?fc_19 ?rd_20 ?ga_20 ?fc_20 ?rd_21 ?ga_21 ?fc_21 ?xb_0 ?ro_0 ?xb_1 ?ro_1 ?xb_2 ?ro_2 ?xb_3 ?ro_3 ?xb_4 ?ro_4 ?xb_5 ?ro_5 ?xb_6 ?ro_6 ?xb_7 ?ro_7 ?xb_8 ?ro_8 ?xb_9 ?ro_9 ?xb_10 ?ro_10 ?xb_11 ?ro_11 ?xb_12 ?ro_12 ?xb_13 ?ro_13 ?xb_14 ?ro_14 ?xb_15 ?ro_15 ?xb_16 ?ro_16 ?xb_17 ?ro_17 ?xb_18 ?ro_18 ?xb_19 ?ro_19 ?xb_20 ?ro_20 ?xb_21 ?ro_21 ?aK0 ?aK1 ?aK2 ?aK3 ?aK4 ?aK5 ?aK6 ?aOp ?lOp ?cn ?ct ?z_len ?z_abs ?z_int ?z_isinstance ?z_divmod ?z_max ?z_min ?z_range ?z_all ?z_repr ?z_enumerate ?z_ValueError ?z_LookupError ?z_ArithmeticError
    (case aC0 => k_is)
    (case aC1 => k_is)
    (case aC2 => k_is)
    (case aC3 => k_is)
    (case aC4 => k_is)
    (case aC5 => k_is)
    (case aC6 => k_is)
    (case aC7 => k_is)
    (case aC8 => k_is)
    (case aC9 => k_is)
    (case aC10 => k_is)
    (case aC11 => k_is)
    (case aC12 => k_is)
    (case aC13 => k_is)
    (case aC14 => k_is)
    (case aC15 => k_is)
    (case aC16 => k_is)
    (case aC17 => k_is)
    (case aC18 => k_is)
    (case aC19 => k_is)
    (case aC20 => k_is)
    (case aC21 => k_is)
    (case a_law_sip => k_is)
    (case l_law_sip => k_is)
    (case c_law_sip => k_is)
    (case k_law_sip => k_is)
    (case a_law_pick => k_is)
    (case l_law_pick => k_is)
    (case c_law_pick => k_is)
    (case k_law_pick => k_is)
    (case a_law_cup => k_is)
    (case l_law_cup => k_is)
    (case c_law_cup => k_is)
    (case k_law_cup => k_is)
    (case a_law_classes => k_is)
    (case l_law_classes => k_is)
    (case c_law_classes => k_is)
    (case k_law_classes => k_is)
    (case a_law_given => k_is)
    (case l_law_given => k_is)
    (case c_law_given => k_is)
    (case k_law_given => k_is)
    (case a_law_indexed => k_is)
    (case l_law_indexed => k_is)
    (case c_law_indexed => k_is)
    (case k_law_indexed => k_is)
    (case a_law_right => k_is)
    (case l_law_right => k_is)
    (case c_law_right => k_is)
    (case k_law_right => k_is)
    (case a_law => k_is)
    (case l_law => k_is)
    (case c_law => k_is)
    (case k_law => k_is)
    (case a_NotAPattern_init => k_is)
    (case i_NotAPattern_init => k_is)
    (case l_NotAPattern_init => k_is)
    (case c_NotAPattern_init => k_is)
    (case k_NotAPattern_init => k_is)
    (case a_NotARun_init => k_is)
    (case i_NotARun_init => k_is)
    (case l_NotARun_init => k_is)
    (case c_NotARun_init => k_is)
    (case k_NotARun_init => k_is)
    (case a_InvalidResistance_init => k_is)
    (case i_InvalidResistance_init => k_is)
    (case l_InvalidResistance_init => k_is)
    (case c_InvalidResistance_init => k_is)
    (case k_InvalidResistance_init => k_is)
    (case a_InvalidCount_init => k_is)
    (case i_InvalidCount_init => k_is)
    (case l_InvalidCount_init => k_is)
    (case c_InvalidCount_init => k_is)
    (case k_InvalidCount_init => k_is)
    (case a_InvalidNumber_init => k_is)
    (case i_InvalidNumber_init => k_is)
    (case l_InvalidNumber_init => k_is)
    (case c_InvalidNumber_init => k_is)
    (case k_InvalidNumber_init => k_is)
    (case a_InvalidText_init => k_is)
    (case i_InvalidText_init => k_is)
    (case l_InvalidText_init => k_is)
    (case c_InvalidText_init => k_is)
    (case k_InvalidText_init => k_is)
    (case a_InvalidName_init => k_is)
    (case i_InvalidName_init => k_is)
    (case l_InvalidName_init => k_is)
    (case c_InvalidName_init => k_is)
    (case k_InvalidName_init => k_is)
    (case a_InvalidClaim_init => k_is)
    (case i_InvalidClaim_init => k_is)
    (case l_InvalidClaim_init => k_is)
    (case c_InvalidClaim_init => k_is)
    (case k_InvalidClaim_init => k_is)
    (case a_InvalidIndex_init => k_is)
    (case i_InvalidIndex_init => k_is)
    (case l_InvalidIndex_init => k_is)
    (case c_InvalidIndex_init => k_is)
    (case k_InvalidIndex_init => k_is)
    (case a_InvalidPieces_init => k_is)
    (case i_InvalidPieces_init => k_is)
    (case l_InvalidPieces_init => k_is)
    (case c_InvalidPieces_init => k_is)
    (case k_InvalidPieces_init => k_is)
    (case a_InvalidKinds_init => k_is)
    (case i_InvalidKinds_init => k_is)
    (case l_InvalidKinds_init => k_is)
    (case c_InvalidKinds_init => k_is)
    (case k_InvalidKinds_init => k_is)
    (case a_InvalidStretches_init => k_is)
    (case i_InvalidStretches_init => k_is)
    (case l_InvalidStretches_init => k_is)
    (case c_InvalidStretches_init => k_is)
    (case k_InvalidStretches_init => k_is)
    (case a_InvalidDeeds_init => k_is)
    (case i_InvalidDeeds_init => k_is)
    (case l_InvalidDeeds_init => k_is)
    (case c_InvalidDeeds_init => k_is)
    (case k_InvalidDeeds_init => k_is)
    (case a_UnknownName_init => k_is)
    (case i_UnknownName_init => k_is)
    (case l_UnknownName_init => k_is)
    (case c_UnknownName_init => k_is)
    (case k_UnknownName_init => k_is)
    (case a_InUse_init => k_is)
    (case i_InUse_init => k_is)
    (case l_InUse_init => k_is)
    (case c_InUse_init => k_is)
    (case k_InUse_init => k_is)
    (case a_TooMany_init => k_is)
    (case i_TooMany_init => k_is)
    (case l_TooMany_init => k_is)
    (case c_TooMany_init => k_is)
    (case k_TooMany_init => k_is)
    (case a_Broken_init => k_is)
    (case i_Broken_init => k_is)
    (case l_Broken_init => k_is)
    (case c_Broken_init => k_is)
    (case k_Broken_init => k_is)
    (case a_WrongValue_init => k_is)
    (case i_WrongValue_init => k_is)
    (case l_WrongValue_init => k_is)
    (case c_WrongValue_init => k_is)
    (case k_WrongValue_init => k_is)
    (case a_WrongName_init => k_is)
    (case i_WrongName_init => k_is)
    (case l_WrongName_init => k_is)
    (case c_WrongName_init => k_is)
    (case k_WrongName_init => k_is)
    (case a_NoAnswer_init => k_is)
    (case i_NoAnswer_init => k_is)
    (case l_NoAnswer_init => k_is)
    (case c_NoAnswer_init => k_is)
    (case k_NoAnswer_init => k_is)
    (case ai_17 => k_is)
    (case ai_18 => k_is)
    (case rd_19 => k_is)
    (case ga_19 => k_is)
    (case fc_19 => k_is)
    (case rd_20 => k_is)
    (case ga_20 => k_is)
    (case fc_20 => k_is)
    (case rd_21 => k_is)
    (case ga_21 => k_is)
    (case fc_21 => k_is)
    (case xb_0 => kernel_rfl)
    (case ro_0 => kernel_rfl)
    (case xb_1 => kernel_rfl)
    (case ro_1 => kernel_rfl)
    (case xb_2 => kernel_rfl)
    (case ro_2 => kernel_rfl)
    (case xb_3 => kernel_rfl)
    (case ro_3 => kernel_rfl)
    (case xb_4 => kernel_rfl)
    (case ro_4 => kernel_rfl)
    (case xb_5 => kernel_rfl)
    (case ro_5 => kernel_rfl)
    (case xb_6 => kernel_rfl)
    (case ro_6 => kernel_rfl)
    (case xb_7 => kernel_rfl)
    (case ro_7 => kernel_rfl)
    (case xb_8 => kernel_rfl)
    (case ro_8 => kernel_rfl)
    (case xb_9 => kernel_rfl)
    (case ro_9 => kernel_rfl)
    (case xb_10 => kernel_rfl)
    (case ro_10 => kernel_rfl)
    (case xb_11 => kernel_rfl)
    (case ro_11 => kernel_rfl)
    (case xb_12 => kernel_rfl)
    (case ro_12 => kernel_rfl)
    (case xb_13 => kernel_rfl)
    (case ro_13 => kernel_rfl)
    (case xb_14 => kernel_rfl)
    (case ro_14 => kernel_rfl)
    (case xb_15 => kernel_rfl)
    (case ro_15 => kernel_rfl)
    (case xb_16 => kernel_rfl)
    (case ro_16 => kernel_rfl)
    (case xb_17 => kernel_rfl)
    (case ro_17 => kernel_rfl)
    (case xb_18 => kernel_rfl)
    (case ro_18 => kernel_rfl)
    (case xb_19 => kernel_rfl)
    (case ro_19 => kernel_rfl)
    (case xb_20 => kernel_rfl)
    (case ro_20 => kernel_rfl)
    (case xb_21 => kernel_rfl)
    (case ro_21 => kernel_rfl)
    (case aK0 => k_is)
    (case aK1 => k_is)
    (case aK2 => k_is)
    (case aK3 => k_is)
    (case aK4 => k_is)
    (case aK5 => k_is)
    (case aK6 => k_is)
    (case aOp => k_is)
    (case lOp => k_is)
    (case cn => k_is)
    (case ct => k_is)
    (case z_len => k_is)
    (case z_abs => k_is)
    (case z_int => k_is)
    (case z_isinstance => k_is)
    (case z_divmod => k_is)
    (case z_max => k_is)
    (case z_min => k_is)
    (case z_range => k_is)
    (case z_all => k_is)
    (case z_repr => k_is)
    (case z_enumerate => k_is)
    (case z_ValueError => k_is)
    (case z_LookupError => k_is)
    (case z_ArithmeticError => k_is)

