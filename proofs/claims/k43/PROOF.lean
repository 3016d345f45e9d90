import PyProof.Rows.All
import Wide.All
import OpenK.AllK
import Wide.FinOn
import HandS.ForMost
import HandS.IsInst
import HandS.Wide
import HandS.WideBits
import HandS.MakeKwOnly
import HandS.SlotsOwn
import PyProof.ReprRoads
import HandS.Property
import HandS.FStr
import HandS.RaiseMore
import KE.KCallOwn
import PyProof.InstNe
import PyProof.ReprLen
import PyProof.Rows.ReprOcc
import HandS.Star
import HandS.ClsMeth
import HandS.Style
import HandS.TupAny
import HandS.Deep
import KE.KRevSl
import KE.GoesMore
import HandS.Iter
import HandS.Codes
import HandS.Flow
import KE.RegKIsAll
import PySem.Challenge.RW_rungladders_k43_whole_order_of_patterns
set_option Elab.async false
set_option linter.all false
set_option maxRecDepth 100000
/-! The mathematics: whole roots, common divisors, the one equation of a number, its sign beside a fraction. -/
namespace RL
def Sm (n : Nat) (x : Int) : Prop := x.natAbs < 2 ^ n
theorem Sm.mono {m n : Nat} {x : Int} (h : Sm m x) (l : m ≤ n) : Sm n x := Nat.lt_of_lt_of_le h (Nat.pow_le_pow_right (by decide) l)
theorem Sm.mul {m n : Nat} {x y : Int} (h : Sm m x) (k : Sm n y) : Sm (m + n) (x * y) := by
  unfold Sm at *
  rw [Int.natAbs_mul, Nat.pow_add]
  exact Nat.mul_lt_mul'' h k
theorem Sm.add {n : Nat} {x y : Int} (h : Sm n x) (k : Sm n y) : Sm (n + 1) (x + y) := by
  unfold Sm at *
  rw [Nat.pow_succ]
  omega
theorem Sm.sub {n : Nat} {x y : Int} (h : Sm n x) (k : Sm n y) : Sm (n + 1) (x - y) := by
  unfold Sm at *
  rw [Nat.pow_succ]
  omega
theorem Sm.neg {n : Nat} {x : Int} (h : Sm n x) : Sm n (-x) := by
  unfold Sm at *
  omega
theorem Sm.of {n : Nat} {x y : Int} (h : Sm n y) (a : -y ≤ x) (b : x ≤ y) : Sm n x := by
  unfold Sm at *
  omega
theorem Sm.div {n : Nat} {x y : Int} (h : Sm n x) (hy : 0 < y) : Sm n (x / y) := by
  unfold Sm at *
  have h1 : (x / y).natAbs ≤ x.natAbs := by
    rcases Int.le_total 0 x with hx | hx
    · have := Int.ediv_le_self y hx
      have := Int.ediv_nonneg hx (Int.le_of_lt hy)
      omega
    · have h3 : x / y ≤ 0 := by
        have := Int.ediv_le_ediv hy hx
        simpa using this
      have h2 : x ≤ x / y := by
        have h4 : x * y ≤ x := by
          have q := Int.mul_nonneg (a := -x) (b := y - 1) (by omega) (by omega)
          have e : -x * (y - 1) = x - x * y := by grind
          omega
        exact (Int.le_ediv_iff_mul_le hy).mpr h4
      omega
  omega
theorem sm40 {x : Int} (a : -(10 ^ 40) ≤ x) (b : x ≤ 10 ^ 40) : Sm 133 x := by
  unfold Sm
  have : (10 : Int) ^ 40 < 2 ^ 133 := by decide
  have e : ((2 ^ 133 : Nat) : Int) = 2 ^ 133 := by decide
  omega
/-! ### whole roots -/
def IsRt (w r : Int) : Prop := 0 ≤ r ∧ r * r ≤ w ∧ w < (r + 1) * (r + 1)
theorem IsRt.le {w r s : Int} (h : IsRt w r) (k : IsRt w s) : r ≤ s := by
  obtain ⟨h0, h1, h2⟩ := h
  obtain ⟨k0, k1, k2⟩ := k
  rcases Int.lt_or_le s r with l | l
  · have : (s + 1) * (s + 1) ≤ r * r := Int.mul_le_mul (by omega) (by omega) (by omega) (by omega)
    omega
  · exact l
theorem IsRt.eq {w r s : Int} (h : IsRt w r) (k : IsRt w s) : r = s := Int.le_antisymm (h.le k) (k.le h)
def rtN : Nat → Nat
  | 0 => 0
  | n + 1 => if (rtN n + 1) * (rtN n + 1) ≤ n + 1 then rtN n + 1 else rtN n
theorem rtN_is : ∀ n, rtN n * rtN n ≤ n ∧ n < (rtN n + 1) * (rtN n + 1)
  | 0 => ⟨Nat.le_refl _, by decide⟩
  | n + 1 => by
    have ih := rtN_is n
    unfold rtN
    split
    · rename_i h
      refine ⟨h, ?_⟩
      have : (rtN n + 1 + 1) * (rtN n + 1 + 1) = (rtN n + 1) * (rtN n + 1) + 2 * (rtN n + 1) + 1 := by grind
      omega
    · rename_i h
      omega
def rt (w : Int) : Int := (rtN w.toNat : Int)
theorem rt_is {w : Int} (h : 0 ≤ w) : IsRt w (rt w) := by
  have k := rtN_is w.toNat
  have e : (w.toNat : Int) = w := Int.toNat_of_nonneg h
  refine ⟨Int.natCast_nonneg _, ?_, ?_⟩
  · have := Int.ofNat_le.mpr k.1
    rw [Int.natCast_mul, e] at this
    exact this
  · have := Int.ofNat_lt.mpr k.2
    rw [Int.natCast_mul, e, Int.natCast_add] at this
    exact this
theorem rt_of {w r : Int} (h : IsRt w r) : r = rt w := h.eq (rt_is (Int.le_trans (Int.mul_nonneg h.1 h.1) h.2.1))
theorem rt_sm {n : Nat} {w : Int} (h0 : 0 ≤ w) (h : Sm (2 * n) w) : Sm n (rt w) := by
  obtain ⟨a, b, _⟩ := rt_is h0
  unfold Sm at *
  refine Nat.lt_of_not_le fun q => ?_
  have e : (2 : Nat) ^ (2 * n) = 2 ^ n * 2 ^ n := by rw [← Nat.pow_add]; congr 1; omega
  have : 2 ^ n * 2 ^ n ≤ (rt w).natAbs * (rt w).natAbs := Nat.mul_le_mul q q
  have e2 : (rt w * rt w).natAbs = (rt w).natAbs * (rt w).natAbs := Int.natAbs_mul _ _
  have : (rt w * rt w).natAbs ≤ w.natAbs := by
    have := Int.mul_nonneg a a
    omega
  omega
theorem newton {n g : Int} (hn : 0 ≤ n) (hg : 0 ≤ g) (h : n < (g + 1) * (g + 1)) (l : n < g * g) :
    0 < g ∧ 0 ≤ (g + n / g) / 2 ∧ (g + n / g) / 2 < g ∧ n < ((g + n / g) / 2 + 1) * ((g + n / g) / 2 + 1) := by
  have g0 : 0 < g := by
    rcases Int.lt_or_le 0 g with q | q
    · exact q
    · have : g = 0 := by omega
      subst this
      omega
  have q0 : 0 ≤ n / g := Int.ediv_nonneg hn hg
  have q1 : n < g * (n / g + 1) := by
    have := Int.lt_mul_ediv_self_add (x := n) (k := g) g0
    rw [Int.mul_add, Int.mul_one]
    exact this
  have q2 : n / g < g := Int.ediv_lt_of_lt_mul g0 l
  generalize n / g = q at *
  have hm : g + q ≤ 2 * ((g + q) / 2) + 1 := by omega
  have h0 : 0 ≤ (g + q) / 2 := by omega
  have h1 : (g + q) / 2 < g := by omega
  generalize (g + q) / 2 = m at *
  refine ⟨g0, h0, h1, ?_⟩
  have a1 : (g + q + 1) * (g + q + 1) ≤ (2 * (m + 1)) * (2 * (m + 1)) := Int.mul_le_mul (by omega) (by omega) (by omega) (by omega)
  have a2 : 0 ≤ (g - q - 1) * (g - q - 1) := by
    rcases Int.le_total 0 (g - q - 1) with z | z
    · exact Int.mul_nonneg z z
    · exact Int.mul_nonneg_of_nonpos_of_nonpos z z
  have a3 : (g + q + 1) * (g + q + 1) = 4 * (g * (q + 1)) + (g - q - 1) * (g - q - 1) := by grind
  have a4 : (2 * (m + 1)) * (2 * (m + 1)) = 4 * ((m + 1) * (m + 1)) := by grind
  omega
/-! ### common divisors -/
def gc (a b : Int) : Int := (Int.gcd a b : Int)
theorem gc_pos {a b : Int} (h : a ≠ 0 ∨ b ≠ 0) : 0 < gc a b := by
  unfold gc
  have : 0 < Int.gcd a b := by
    rcases Nat.eq_zero_or_pos (Int.gcd a b) with z | z
    · rw [Int.gcd_eq_zero_iff] at z
      omega
    · exact z
  omega
theorem gc_dvd1 (a b : Int) : gc a b ∣ a := Int.gcd_dvd_left ..
theorem gc_dvd2 (a b : Int) : gc a b ∣ b := Int.gcd_dvd_right ..
theorem gc_zero {a : Int} (h : 0 ≤ a) : gc a 0 = a := by
  unfold gc
  rw [Int.gcd_zero_right]
  omega
theorem gc_step {a b : Int} (ha : 0 ≤ a) (hb : 0 < b) : gc b (a % b) = gc a b := by
  obtain ⟨n, rfl⟩ := Int.eq_ofNat_of_zero_le ha
  obtain ⟨m, rfl⟩ := Int.eq_ofNat_of_zero_le (Int.le_of_lt hb)
  unfold gc
  congr 1
  rw [← Int.natCast_emod, Int.gcd_natCast_natCast, Int.gcd_natCast_natCast, Nat.gcd_comm, ← Nat.gcd_rec, Nat.gcd_comm]
theorem gc_abs (a b : Int) : gc (if a < 0 then -a else a) (if b < 0 then -b else b) = gc a b := by
  unfold gc
  congr 1
  split <;> split <;> simp
theorem ex_mul {g a : Int} (h : g ∣ a) (hg : 0 < g) : a = g * (a / g) := (Int.mul_ediv_cancel' h).symm
/-! ### the one equation of a number -/
def Good (a b c : Int) : Prop := (a = 0 ∧ 1 ≤ b ∧ 0 ≤ c) ∨ (1 ≤ a ∧ 1 ≤ c)
structure Nrm (a b c s l w : Int) : Prop where
  good : Good s l w
  /-- the sign beside x / y -/
  sgn : ∀ x y : Int, 0 ≤ x → 1 ≤ y → (0 < w * y * y - l * x * y - s * x * x ↔ a * x * x + b * x * y - c * y * y < 0) ∧ (w * y * y - l * x * y - s * x * x = 0 ↔ a * x * x + b * x * y - c * y * y = 0)
theorem pos_iff {k u : Int} (hk : 0 < k) : (0 < k * u ↔ 0 < u) ∧ (k * u = 0 ↔ u = 0) := by
  refine ⟨⟨fun h => ?_, fun h => Int.mul_pos hk h⟩, ⟨fun h => ?_, fun h => by rw [h, Int.mul_zero]⟩⟩
  · rcases Int.lt_or_le 0 u with z | z
    · exact z
    · have := Int.mul_nonpos_of_nonneg_of_nonpos (Int.le_of_lt hk) z
      omega
  · rcases Int.mul_eq_zero.mp h with z | z
    · omega
    · exact z
theorem nrm_div {a b c g : Int} (h : Good a b c) (hg : 0 < g) (da : g ∣ a) (db : g ∣ b) (dc : g ∣ c) : Nrm a b c (a / g) (b / g) (c / g) := by
  have ea := ex_mul da hg
  have eb := ex_mul db hg
  have ec := ex_mul dc hg
  generalize a / g = s at *
  generalize b / g = l at *
  generalize c / g = w at *
  subst ea eb ec
  refine ⟨?_, fun x y hx hy => ?_⟩
  · rcases h with ⟨h1, h2, h3⟩ | ⟨h1, h2⟩
    · refine .inl ⟨((pos_iff hg).2.mp h1), ?_, ?_⟩
      · have := (pos_iff (u := l) hg).1.mp (by omega)
        omega
      · rcases Int.lt_or_le w 0 with z | z
        · have := Int.mul_neg_of_pos_of_neg hg z
          omega
        · exact z
    · refine .inr ⟨?_, ?_⟩
      · have := (pos_iff (u := s) hg).1.mp (by omega)
        omega
      · have := (pos_iff (u := w) hg).1.mp (by omega)
        omega
  · have e : g * s * x * x + g * l * x * y - g * w * y * y = -(g * (w * y * y - l * x * y - s * x * x)) := by grind
    rw [e]
    have := pos_iff (k := g) (u := w * y * y - l * x * y - s * x * x) hg
    refine ⟨?_, ?_⟩
    · rw [← this.1]; omega
    · rw [← this.2]; omega
theorem rt_gt {b t r : Int} (ht : 0 < t) (hr : 0 ≤ r) (e : b * b + t = r * r) : 0 < r + b ∧ 0 < r - b := by
  refine ⟨?_, ?_⟩
  · rcases Int.lt_or_le 0 (r + b) with z | z
    · exact z
    · have h1 : 0 ≤ (-b - r) * (-b + r) := Int.mul_nonneg (by omega) (by omega)
      have h2 : (-b - r) * (-b + r) = b * b - r * r := by grind
      omega
  · rcases Int.lt_or_le 0 (r - b) with z | z
    · exact z
    · have h1 : 0 ≤ (b - r) * (b + r) := Int.mul_nonneg (by omega) (by omega)
      have h2 : (b - r) * (b + r) = b * b - r * r := by grind
      omega
theorem nrm_root {a b c r g : Int} (ha : 1 ≤ a) (hc : 1 ≤ c) (hr : 0 ≤ r) (e : b * b + 4 * a * c = r * r) (hg : 0 < g) (d1 : g ∣ r - b) (d2 : g ∣ 2 * a) : Nrm a b c 0 (2 * a / g) ((r - b) / g) := by
  have hac : 0 < 4 * a * c := Int.mul_pos (by omega) (by omega)
  obtain ⟨p1, p2⟩ := rt_gt hac hr e
  have e1 := ex_mul d1 hg
  have e2 := ex_mul d2 hg
  have l0 : 1 ≤ 2 * a / g := by
    have := (pos_iff (u := 2 * a / g) hg).1.mp (by omega)
    omega
  have w0 : 1 ≤ (r - b) / g := by
    have := (pos_iff (u := (r - b) / g) hg).1.mp (by omega)
    omega
  generalize 2 * a / g = l at *
  generalize (r - b) / g = w at *
  refine ⟨.inl ⟨rfl, l0, by omega⟩, fun x y hx hy => ?_⟩
  have k : 0 < r * y + b * y + 2 * a * x := by
    have h1 : 0 < (r + b) * y := Int.mul_pos p1 (by omega)
    have h2 : 0 ≤ 2 * a * x := Int.mul_nonneg (by omega) hx
    have h3 : (r + b) * y = r * y + b * y := by grind
    omega
  have y0 : 0 < y := by omega
  -- y * g * (w y - l x) = y * ((r - b) y - 2 a x)
  have f1 : g * (w * y * y - l * x * y - 0 * x * x) = y * ((r - b) * y - 2 * a * x) := by
    rw [e1, e2]; grind
  have f2 : 4 * a * (c * y * y - a * x * x - b * x * y) = (r * y + b * y + 2 * a * x) * ((r - b) * y - 2 * a * x) := by grind
  have q1 := pos_iff (u := w * y * y - l * x * y - 0 * x * x) hg
  have q2 := pos_iff (u := (r - b) * y - 2 * a * x) y0
  have q3 := pos_iff (k := 4 * a) (u := c * y * y - a * x * x - b * x * y) (by omega)
  have q4 := pos_iff (u := (r - b) * y - 2 * a * x) k
  rw [f1] at q1
  rw [f2] at q3
  refine ⟨?_, ?_⟩
  · rw [← q1.1, q2.1, ← q4.1, q3.1]; omega
  · rw [← q1.2, q2.2, ← q4.2, q3.2]; omega
def parts (a b c : Int) : Int × Int × Int :=
  if a = 0 then (0, b / gc c b, c / gc c b)
  else if rt (b * b + 4 * a * c) * rt (b * b + 4 * a * c) = b * b + 4 * a * c then
    (0, 2 * a / gc (rt (b * b + 4 * a * c) - b) (2 * a), (rt (b * b + 4 * a * c) - b) / gc (rt (b * b + 4 * a * c) - b) (2 * a))
  else (a / gc (gc a b) c, b / gc (gc a b) c, c / gc (gc a b) c)
theorem inside_pos {a b c : Int} (h : 1 ≤ a ∧ 1 ≤ c) : 0 < 4 * a * c ∧ 0 ≤ b * b + 4 * a * c := by
  have hac : 0 < 4 * a * c := Int.mul_pos (by omega) (by omega)
  have hb : 0 ≤ b * b := by
    rcases Int.le_total 0 b with z | z
    · exact Int.mul_nonneg z z
    · exact Int.mul_nonneg_of_nonpos_of_nonpos z z
  omega
theorem parts_nrm {a b c : Int} (h : Good a b c) : Nrm a b c (parts a b c).1 (parts a b c).2.1 (parts a b c).2.2 := by
  unfold parts
  rcases h with ⟨rfl, h2, h3⟩ | h
  · rw [if_pos rfl]
    have g0 : 0 < gc c b := gc_pos (.inr (by omega))
    have := nrm_div (a := 0) (b := b) (c := c) (.inl ⟨rfl, h2, h3⟩) g0 (Int.dvd_zero _) (gc_dvd2 _ _) (gc_dvd1 _ _)
    rw [Int.zero_ediv] at this
    exact this
  · rw [if_neg (by omega)]
    have k := inside_pos (b := b) h
    split
    · rename_i e
      exact nrm_root h.1 h.2 (rt_is k.2).1 e.symm (gc_pos (.inr (by omega))) (gc_dvd1 _ _) (gc_dvd2 _ _)
    · exact nrm_div (.inr h) (gc_pos (.inr (by omega))) (Int.dvd_trans (gc_dvd1 _ _) (gc_dvd1 _ _)) (Int.dvd_trans (gc_dvd1 _ _) (gc_dvd2 _ _)) (gc_dvd2 _ _)
theorem parts_sm {a b c : Int} (h : Good a b c) (ha : Sm 133 a) (hb : Sm 133 b) (hc : Sm 133 c) : Sm 150 (parts a b c).1 ∧ Sm 150 (parts a b c).2.1 ∧ Sm 150 (parts a b c).2.2 := by
  unfold parts
  rcases h with ⟨rfl, h2, h3⟩ | h
  · rw [if_pos rfl]
    have g0 : 0 < gc c b := gc_pos (.inr (by omega))
    exact ⟨show Sm 150 0 by unfold Sm; decide, (hb.div g0).mono (by decide), (hc.div g0).mono (by decide)⟩
  · rw [if_neg (by omega)]
    have k := inside_pos (b := b) h
    have hd : Sm 270 (b * b + 4 * a * c) := by
      have h4 : Sm 3 4 := by unfold Sm; decide
      have e1 : Sm (133 + 133) (b * b) := hb.mul hb
      have e2 : Sm (3 + 133 + 133) (4 * a * c) := (h4.mul ha).mul hc
      exact (Sm.add (n := 269) (e1.mono (by decide)) (e2.mono (by decide)))
    have hr : Sm 135 (rt (b * b + 4 * a * c)) := rt_sm (n := 135) k.2 hd
    have h2 : Sm 2 2 := by unfold Sm; decide
    split
    · have g0 : 0 < gc (rt (b * b + 4 * a * c) - b) (2 * a) := gc_pos (.inr (by omega))
      refine ⟨show Sm 150 0 by unfold Sm; decide, ?_, ?_⟩
      · exact ((h2.mul ha).div g0).mono (by decide)
      · exact ((hr.sub (hb.mono (by decide))).div g0).mono (by decide)
    · have g0 : 0 < gc (gc a b) c := gc_pos (.inr (by omega))
      exact ⟨(ha.div g0).mono (by decide), (hb.div g0).mono (by decide), (hc.div g0).mono (by decide)⟩
/-! ### beside a fraction -/
def sg (n : Int) : Int := if 0 < n then 1 else if n < 0 then -1 else 0
def side (a b c x y : Int) : Int := if y = 0 then -1 else sg (-(a * x * x + b * x * y - c * y * y))
def beside (s l w x y : Int) : Int := sg (w * y * y - l * x * y - s * x * x)
theorem Nrm.side {a b c s l w x y : Int} (h : Nrm a b c s l w) (hx : 0 ≤ x) (hy : 1 ≤ y) : beside s l w x y = RL.side a b c x y := by
  obtain ⟨k1, k2⟩ := h.sgn x y hx hy
  unfold beside RL.side sg
  rw [if_neg (show ¬ y = 0 by omega)]
  generalize w * y * y - l * x * y - s * x * x = u at *
  generalize a * x * x + b * x * y - c * y * y = v at *
  by_cases p : 0 < u
  · have := k1.mp p
    rw [if_pos p, if_pos (by omega)]
  · by_cases q : u = 0
    · have := k2.mp q
      rw [if_neg p, if_neg (by omega), if_neg (by omega), if_neg (by omega)]
    · have : ¬ v < 0 := fun z => p (k1.mpr z)
      have : ¬ v = 0 := fun z => q (k2.mpr z)
      rw [if_neg p, if_pos (by omega), if_neg (by omega), if_pos (by omega)]
/-! ### floors -/
def flo (s l w t : Int) : Int := if s = 0 then t * w / l else (rt (t * t * (l * l + 4 * s * w)) - t * l) / (2 * s)
theorem flo_is {s l w t : Int} (h : Good s l w) (ht : 1 ≤ t) : 0 ≤ flo s l w t ∧ 0 ≤ beside s l w (flo s l w t) t ∧ beside s l w (flo s l w t + 1) t = -1 := by
  have sgp : ∀ n : Int, 0 ≤ n → 0 ≤ sg n := fun n hn => by
    unfold sg
    split
    · decide
    · split
      · omega
      · decide
  have sgn : ∀ n : Int, n < 0 → sg n = -1 := fun n hn => by
    unfold sg
    rw [if_neg (by omega), if_pos hn]
  unfold flo
  rcases h with ⟨rfl, h2, h3⟩ | h
  · rw [if_pos rfl]
    have l0 : 0 < l := by omega
    have d1 := Int.mul_ediv_self_le (x := t * w) (k := l) (by omega)
    have d2 := Int.lt_mul_ediv_self_add (x := t * w) (k := l) l0
    have d0 : 0 ≤ t * w / l := Int.ediv_nonneg (Int.mul_nonneg (by omega) h3) (by omega)
    generalize t * w / l = q at *
    refine ⟨d0, sgp _ ?_, sgn _ ?_⟩
    · have : w * t * t - l * q * t - 0 * q * q = t * (t * w - l * q) := by grind
      rw [this]
      exact Int.mul_nonneg (by omega) (by omega)
    · have : w * t * t - l * (q + 1) * t - 0 * (q + 1) * (q + 1) = -(t * (l * q + l - t * w)) := by grind
      rw [this]
      have := Int.mul_pos (a := t) (b := l * q + l - t * w) (by omega) (by omega)
      omega
  · rw [if_neg (by omega)]
    have hsw : 0 < 4 * s * w := Int.mul_pos (by omega) (by omega)
    have ll : 0 ≤ l * l := by
      rcases Int.le_total 0 l with z | z
      · exact Int.mul_nonneg z z
      · exact Int.mul_nonneg_of_nonpos_of_nonpos z z
    have w0 : 0 ≤ t * t * (l * l + 4 * s * w) := Int.mul_nonneg (Int.mul_nonneg (by omega) (by omega)) (by omega)
    obtain ⟨r0, r1, r2⟩ := rt_is w0
    generalize er : rt (t * t * (l * l + 4 * s * w)) = r at *
    -- r is at least t * l either way
    have rl : -r ≤ t * l ∧ t * l ≤ r := by
      have h0 : t * l * (t * l) ≤ t * t * (l * l + 4 * s * w) := by
        have e : t * t * (l * l + 4 * s * w) = t * l * (t * l) + t * t * (4 * s * w) := by grind
        have := Int.mul_nonneg (a := t * t) (b := 4 * s * w) (Int.mul_nonneg (by omega) (by omega)) (by omega)
        omega
      refine ⟨?_, ?_⟩
      · rcases Int.lt_or_le (t * l) (-r) with z | z
        · have : (r + 1) * (r + 1) ≤ (-(t * l)) * (-(t * l)) := Int.mul_le_mul (by omega) (by omega) (by omega) (by omega)
          have e : (-(t * l)) * (-(t * l)) = t * l * (t * l) := by grind
          omega
        · exact z
      · rcases Int.lt_or_le r (t * l) with z | z
        · have : (r + 1) * (r + 1) ≤ (t * l) * (t * l) := Int.mul_le_mul (by omega) (by omega) (by omega) (by omega)
          omega
        · exact z
    have s0 : 0 < 2 * s := by omega
    have d1 := Int.mul_ediv_self_le (x := r - t * l) (k := 2 * s) (by omega)
    have d2 := Int.lt_mul_ediv_self_add (x := r - t * l) (k := 2 * s) s0
    have d0 : 0 ≤ (r - t * l) / (2 * s) := Int.ediv_nonneg (by omega) (by omega)
    generalize (r - t * l) / (2 * s) = q at *
    have f : ∀ z : Int, 4 * s * (w * t * t - l * z * t - s * z * z) = t * t * (l * l + 4 * s * w) - (2 * s * z + t * l) * (2 * s * z + t * l) := fun z => by grind
    have sp : 0 < 4 * s := by omega
    refine ⟨d0, sgp _ ?_, sgn _ ?_⟩
    · have u1 : 0 ≤ 2 * s * q := Int.mul_nonneg (by omega) d0
      have u2 : (2 * s * q + t * l) * (2 * s * q + t * l) ≤ r * r := by
        rcases Int.le_total 0 (2 * s * q + t * l) with z | z
        · exact Int.mul_le_mul (by omega) (by omega) (by omega) (by omega)
        · have := Int.mul_le_mul (a := -(2 * s * q + t * l)) (b := -(2 * s * q + t * l)) (c := r) (d := r) (by omega) (by omega) (by omega) (by omega)
          have e : (-(2 * s * q + t * l)) * (-(2 * s * q + t * l)) = (2 * s * q + t * l) * (2 * s * q + t * l) := by grind
          omega
      have u3 := f q
      have u4 := pos_iff (u := w * t * t - l * q * t - s * q * q) sp
      rcases Int.lt_or_le (w * t * t - l * q * t - s * q * q) 0 with z | z
      · have := Int.mul_neg_of_pos_of_neg sp z
        omega
      · exact z
    · have u0 : 2 * s * (q + 1) = 2 * s * q + 2 * s := by grind
      have u2 : (r + 1) * (r + 1) ≤ (2 * s * (q + 1) + t * l) * (2 * s * (q + 1) + t * l) := Int.mul_le_mul (by omega) (by omega) (by omega) (by omega)
      have u3 := f (q + 1)
      rcases Int.lt_or_le (w * t * t - l * (q + 1) * t - s * (q + 1) * (q + 1)) 0 with z | z
      · exact z
      · have := Int.mul_nonneg (Int.le_of_lt sp) z
        omega
end RL

/-! The order of two numbers: by the program's signs, and that unlike small ones differ within thirty figures. -/
namespace RL
theorem sq_nn (x : Int) : 0 ≤ x * x := by
  rcases Int.le_total 0 x with z | z
  · exact Int.mul_nonneg z z
  · exact Int.mul_nonneg_of_nonpos_of_nonpos z z
def Fv (s l w x y : Int) : Int := w * y * y - l * x * y - s * x * x
theorem fv_down {s l w x y x' y' : Int} (g : Good s l w) (hx : 0 ≤ x) (hy : 1 ≤ y) (hx' : 0 ≤ x') (hy' : 1 ≤ y') (h : Fv s l w x y < 0) (c : x * y' ≤ x' * y) : Fv s l w x' y' < 0 := by
  refine Classical.byContradiction fun q => ?_
  have yy : 0 < y * y' := Int.mul_pos (by omega) (by omega)
  have h1 : y' * y' * Fv s l w x y = w * (y * y') * (y * y') - l * (x * y') * (y * y') - s * (x * y') * (x * y') := by unfold Fv; grind
  have h2 : y * y * Fv s l w x' y' = w * (y * y') * (y * y') - l * (x' * y) * (y * y') - s * (x' * y) * (x' * y) := by unfold Fv; grind
  have k1 : y' * y' * Fv s l w x y < 0 := Int.mul_neg_of_pos_of_neg (Int.mul_pos (by omega) (by omega)) h
  have k2 : 0 ≤ y * y * Fv s l w x' y' := Int.mul_nonneg (sq_nn y) (by omega)
  have u0 : 0 ≤ x * y' := Int.mul_nonneg hx (by omega)
  generalize x * y' = u at *
  generalize x' * y = v at *
  generalize y * y' = Y at *
  have d : (v - u) * (l * Y + s * (u + v)) = l * v * Y + s * v * v - (l * u * Y + s * u * u) := by grind
  have k3 : (v - u) * (l * Y + s * (u + v)) < 0 := by omega
  have k4 : 0 < v - u := by
    rcases Int.lt_or_le 0 (v - u) with z | z
    · exact z
    · have : v - u = 0 := by omega
      rw [this, Int.zero_mul] at k3
      omega
  have k5 : l * Y + s * (u + v) < 0 := by
    refine Classical.byContradiction fun z => ?_
    have := Int.mul_nonneg (Int.le_of_lt k4) (Int.not_lt.mp z)
    omega
  rcases g with ⟨rfl, l0, w0⟩ | ⟨s0, w0⟩
  · have := Int.mul_pos (a := l) (b := Y) (by omega) yy
    omega
  · have e : u * (l * Y + s * u) = l * u * Y + s * u * u := by grind
    have p : 0 < w * Y * Y := Int.mul_pos (Int.mul_pos (by omega) yy) yy
    have k6 : 0 < u * (l * Y + s * u) := by omega
    have k7 : 0 < l * Y + s * u := by
      refine Classical.byContradiction fun z => ?_
      have := Int.mul_nonpos_of_nonneg_of_nonpos u0 (Int.not_lt.mp z)
      omega
    have k8 : 0 ≤ s * v := Int.mul_nonneg (by omega) (by omega)
    have e2 : s * (u + v) = s * u + s * v := by grind
    omega
theorem fv_down' {s l w x y x' y' : Int} (g : Good s l w) (hx : 0 ≤ x) (hy : 1 ≤ y) (hx' : 0 ≤ x') (hy' : 1 ≤ y') (h : Fv s l w x y ≤ 0) (c : x * y' < x' * y) : Fv s l w x' y' < 0 := by
  refine Classical.byContradiction fun q => ?_
  have yy : 0 < y * y' := Int.mul_pos (by omega) (by omega)
  have h1 : y' * y' * Fv s l w x y = w * (y * y') * (y * y') - l * (x * y') * (y * y') - s * (x * y') * (x * y') := by unfold Fv; grind
  have h2 : y * y * Fv s l w x' y' = w * (y * y') * (y * y') - l * (x' * y) * (y * y') - s * (x' * y) * (x' * y) := by unfold Fv; grind
  have k1 : y' * y' * Fv s l w x y ≤ 0 := Int.mul_nonpos_of_nonneg_of_nonpos (sq_nn y') h
  have k2 : 0 ≤ y * y * Fv s l w x' y' := Int.mul_nonneg (sq_nn y) (by omega)
  have u0 : 0 ≤ x * y' := Int.mul_nonneg hx (by omega)
  generalize x * y' = u at *
  generalize x' * y = v at *
  generalize y * y' = Y at *
  have d : (v - u) * (l * Y + s * (u + v)) = l * v * Y + s * v * v - (l * u * Y + s * u * u) := by grind
  have k3 : (v - u) * (l * Y + s * (u + v)) ≤ 0 := by omega
  have k4 : 0 < v - u := by omega
  have k5 : l * Y + s * (u + v) ≤ 0 := by
    refine Classical.byContradiction fun z => ?_
    have := Int.mul_pos k4 (Int.not_le.mp z)
    omega
  rcases g with ⟨rfl, l0, w0⟩ | ⟨s0, w0⟩
  · have := Int.mul_pos (a := l) (b := Y) (by omega) yy
    omega
  · have e : u * (l * Y + s * u) = l * u * Y + s * u * u := by grind
    have p : 0 < w * Y * Y := Int.mul_pos (Int.mul_pos (by omega) yy) yy
    have k6 : 0 < u * (l * Y + s * u) := by omega
    have k7 : 0 < l * Y + s * u := by
      refine Classical.byContradiction fun z => ?_
      have := Int.mul_nonpos_of_nonneg_of_nonpos u0 (Int.not_lt.mp z)
      omega
    have k8 : 0 ≤ s * v := Int.mul_nonneg (by omega) (by omega)
    have e2 : s * (u + v) = s * u + s * v := by grind
    omega
theorem fv_up {s l w x y x' y' : Int} (g : Good s l w) (hx : 0 ≤ x) (hy : 1 ≤ y) (hx' : 0 ≤ x') (hy' : 1 ≤ y') (h : 0 ≤ Fv s l w x y) (c : x' * y < x * y') : 0 < Fv s l w x' y' := by
  refine Classical.byContradiction fun q => ?_
  have := fv_down' g hx' hy' hx hy (Int.not_lt.mp q) c
  omega
/-! ### the program's order -/
def sal0 (s l w sl h : Int) : Int := if sl = 0 ∨ h < 0 then sg (-h) else beside s l w h sl
def sal (s l w sl h : Int) : Int := if sl < 0 then -(sal0 s l w (-sl) (-h)) else sal0 s l w sl h
def ord (s l w s' l' w' : Int) : Int := if s' = 0 then beside s l w w' l' else -(sal s' l' w' (l * s' - l' * s) (w * s' - w' * s))
theorem sg_neg {n : Int} (h : n < 0) : sg n = -1 := by unfold sg; rw [if_neg (by omega), if_pos h]
theorem sg_pos {n : Int} (h : 0 < n) : sg n = 1 := by unfold sg; rw [if_pos h]
theorem sg_zero : sg 0 = 0 := by decide
theorem lin {s l w s' l' w' x y : Int} : s * Fv s' l' w' x y - s' * Fv s l w x y = y * ((l * s' - l' * s) * x - (w * s' - w' * s) * y) := by unfold Fv; grind
theorem lin0 {s l w s' l' w' : Int} : s' * Fv s l w (w * s' - w' * s) (l * s' - l' * s) = s * Fv s' l' w' (w * s' - w' * s) (l * s' - l' * s) := by unfold Fv; grind
theorem lin0' {s l w s' l' w' : Int} : s' * Fv s l w (-(w * s' - w' * s)) (-(l * s' - l' * s)) = s * Fv s' l' w' (-(w * s' - w' * s)) (-(l * s' - l' * s)) := by unfold Fv; grind
theorem ord_lt {s l w s' l' w' x y : Int} (g : Good s l w) (g' : Good s' l' w') (hx : 0 ≤ x) (hy : 1 ≤ y) (h : Fv s l w x y < 0) (h' : 0 ≤ Fv s' l' w' x y) : ord s l w s' l' w' = -1 := by
  unfold ord
  split
  · rename_i z
    subst z
    rcases g' with ⟨_, l0, w0⟩ | ⟨z, _⟩
    · refine sg_neg (fv_down g hx hy w0 l0 h ?_)
      have e : Fv 0 l' w' x y = y * (w' * y - l' * x) := by unfold Fv; grind
      rw [e] at h'
      have : 0 ≤ w' * y - l' * x := by
        refine Classical.byContradiction fun z => ?_
        have := Int.mul_neg_of_pos_of_neg (a := y) (by omega) (Int.not_le.mp z)
        omega
      have e2 : x * l' = l' * x := Int.mul_comm _ _
      omega
    · omega
  · rename_i z
    have g2 := g'
    rcases g' with g' | ⟨s0', w0'⟩
    · exact absurd g'.1 z
    have s0 : 0 ≤ s := by rcases g with g | g <;> omega
    -- the line at x / y
    have L : 0 < (l * s' - l' * s) * x - (w * s' - w' * s) * y := by
      have e := lin (s := s) (l := l) (w := w) (s' := s') (l' := l') (w' := w') (x := x) (y := y)
      have a1 : 0 ≤ s * Fv s' l' w' x y := Int.mul_nonneg s0 h'
      have a2 : s' * Fv s l w x y < 0 := Int.mul_neg_of_pos_of_neg (by omega) h
      refine Classical.byContradiction fun q => ?_
      have := Int.mul_nonpos_of_nonneg_of_nonpos (a := y) (by omega) (Int.not_lt.mp q)
      omega
    have e0 := lin0 (s := s) (l := l) (w := w) (s' := s') (l' := l') (w' := w')
    have e0' := lin0' (s := s) (l := l) (w := w) (s' := s') (l' := l') (w' := w')
    generalize l * s' - l' * s = sl at *
    generalize w * s' - w' * s = hh at *
    have goal1 : sal s' l' w' sl hh = 1 := by
      unfold sal sal0
      split
      · rename_i q
        -- falling line
        have m1 : sl * x ≤ 0 := Int.mul_nonpos_of_nonpos_of_nonneg (by omega) hx
        have h0 : hh < 0 := by
          refine Classical.byContradiction fun t => ?_
          have := Int.mul_nonneg (a := hh) (b := y) (by omega) (by omega)
          omega
        rw [if_neg (by omega)]
        have c : x * -sl < -hh * y := by
          have e1 : x * -sl = -(sl * x) := by grind
          have e2 : -hh * y = -(hh * y) := by grind
          omega
        have f1 := fv_down g hx hy (show 0 ≤ -hh by omega) (show 1 ≤ -sl by omega) h (Int.le_of_lt c)
        have f2 : s * Fv s' l' w' (-hh) (-sl) < 0 := by
          rw [← e0']
          exact Int.mul_neg_of_pos_of_neg (by omega) f1
        have f3 : Fv s' l' w' (-hh) (-sl) < 0 := by
          refine Classical.byContradiction fun t => ?_
          have := Int.mul_nonneg s0 (Int.not_lt.mp t)
          omega
        have f4 : beside s' l' w' (-hh) (-sl) = -1 := sg_neg f3
        rw [f4]
        decide
      · rename_i q
        split
        · rename_i t
          refine sg_pos ?_
          rcases t with t | t
          · subst t
            rw [Int.zero_mul] at L
            refine Classical.byContradiction fun r => ?_
            have := Int.mul_nonneg (a := hh) (b := y) (by omega) (by omega)
            omega
          · omega
        · rename_i t
          refine sg_pos (fv_up g2 hx hy (by omega) (by omega) h' ?_)
          have e1 : x * sl = sl * x := Int.mul_comm _ _
          omega
    rw [goal1]
theorem ord_gt {s l w s' l' w' x y : Int} (g : Good s l w) (g' : Good s' l' w') (hx : 0 ≤ x) (hy : 1 ≤ y) (h : Fv s l w x y < 0) (h' : 0 ≤ Fv s' l' w' x y) : ord s' l' w' s l w = 1 := by
  unfold ord
  split
  · rename_i z
    subst z
    rcases g with ⟨_, l0, w0⟩ | ⟨z, _⟩
    · refine sg_pos (fv_up g' hx hy w0 l0 h' ?_)
      have e : Fv 0 l w x y = y * (w * y - l * x) := by unfold Fv; grind
      rw [e] at h
      have : w * y - l * x < 0 := by
        refine Classical.byContradiction fun z => ?_
        have := Int.mul_nonneg (a := y) (by omega) (Int.not_lt.mp z)
        omega
      have e2 : x * l = l * x := Int.mul_comm _ _
      omega
    · omega
  · rename_i z
    have g2 := g
    rcases g with g | ⟨s0, w0⟩
    · exact absurd g.1 z
    have s0' : 0 ≤ s' := by rcases g' with g | g <;> omega
    have goal1 : sal s l w (l' * s - l * s') (w' * s - w * s') = -1 := by
      rcases Int.lt_or_le 0 s' with sp | sp
      · have L : (l' * s - l * s') * x < (w' * s - w * s') * y := by
          have e := lin (s := s) (l := l) (w := w) (s' := s') (l' := l') (w' := w') (x := x) (y := y)
          have a1 : 0 ≤ s * Fv s' l' w' x y := Int.mul_nonneg (by omega) h'
          have a2 : s' * Fv s l w x y < 0 := Int.mul_neg_of_pos_of_neg sp h
          have a3 : 0 < (l * s' - l' * s) * x - (w * s' - w' * s) * y := by
            refine Classical.byContradiction fun q => ?_
            have := Int.mul_nonpos_of_nonneg_of_nonpos (a := y) (by omega) (Int.not_lt.mp q)
            omega
          have e1 : (l * s' - l' * s) * x = -((l' * s - l * s') * x) := by grind
          have e2 : (w * s' - w' * s) * y = -((w' * s - w * s') * y) := by grind
          omega
        have e0 := lin0' (s := s') (l := l') (w := w') (s' := s) (l' := l) (w' := w)
        generalize l' * s - l * s' = sl at *
        generalize w' * s - w * s' = hh at *
        unfold sal sal0
        split
        · rename_i q
          have goal2 : (if -sl = 0 ∨ -hh < 0 then sg (- -hh) else beside s l w (-hh) (-sl)) = 1 := by
            split
            · rename_i t
              refine sg_pos ?_
              omega
            · rename_i t
              have c : -hh * y < x * -sl := by
                have e1 : x * -sl = -(sl * x) := by grind
                have e2 : -hh * y = -(hh * y) := by grind
                omega
              have f1 := fv_up g' hx hy (show 0 ≤ -hh by omega) (show 1 ≤ -sl by omega) h' c
              have f2 : 0 < s' * Fv s l w (-hh) (-sl) := by
                rw [← e0]
                exact Int.mul_pos (by omega) f1
              refine sg_pos (show 0 < Fv s l w (-hh) (-sl) from ?_)
              refine Classical.byContradiction fun t => ?_
              have := Int.mul_nonpos_of_nonneg_of_nonpos s0' (Int.not_lt.mp t)
              omega
          rw [goal2]
        · rename_i q
          have m1 : 0 ≤ sl * x := Int.mul_nonneg (by omega) hx
          have h0 : 0 < hh := by
            refine Classical.byContradiction fun t => ?_
            have := Int.mul_nonpos_of_nonpos_of_nonneg (a := hh) (b := y) (by omega) (by omega)
            omega
          split
          · exact sg_neg (by omega)
          · rename_i t
            refine sg_neg (fv_down g2 hx hy (by omega) (by omega) h ?_)
            have e1 : x * sl = sl * x := Int.mul_comm _ _
            omega
      · have s1 : s' = 0 := by omega
        subst s1
        rcases g' with ⟨_, l0, w0⟩ | ⟨zz, _⟩
        · have p1 : 0 < l' * s := Int.mul_pos (by omega) (by omega)
          have p2 : 0 ≤ w' * s := Int.mul_nonneg w0 (by omega)
          rw [Int.mul_zero, Int.mul_zero, Int.sub_zero, Int.sub_zero]
          unfold sal sal0
          rw [if_neg (by omega), if_neg (by omega)]
          refine sg_neg (fv_down g2 hx hy p2 p1 h ?_)
          have e : Fv 0 l' w' x y = y * (w' * y - l' * x) := by unfold Fv; grind
          rw [e] at h'
          have q : 0 ≤ w' * y - l' * x := by
            refine Classical.byContradiction fun z => ?_
            have := Int.mul_neg_of_pos_of_neg (a := y) (by omega) (Int.not_le.mp z)
            omega
          have q2 := Int.mul_nonneg q (show 0 ≤ s by omega)
          have e3 : (w' * y - l' * x) * s = w' * s * y - x * (l' * s) := by grind
          omega
        · omega
    rw [goal1]
    decide
theorem ord_self {s l w : Int} (g : Good s l w) : ord s l w s l w = 0 := by
  unfold ord
  split
  · rename_i z
    subst z
    unfold beside
    have e : w * l * l - l * w * l - 0 * w * w = 0 := by grind
    rw [e, sg_zero]
  · have e1 : l * s - l * s = 0 := by omega
    have e2 : w * s - w * s = 0 := by omega
    rw [e1, e2]
    unfold sal sal0
    rw [if_neg (by decide), if_pos (.inl rfl)]
    decide
/-! ### lowest terms, and one equation for one number -/
theorem gc_mul {k a b : Int} (hk : 0 ≤ k) : gc (k * a) (k * b) = k * gc a b := by
  unfold gc
  rw [Int.gcd_mul_left, Int.natCast_mul]
  congr 1
  omega
theorem cancel {a b c : Int} (ha : 0 < a) (h : a * b = a * c) : b = c := Int.eq_of_mul_eq_mul_left (by omega) h
theorem low_eq {c b p q : Int} (hb : 0 < b) (hq : 0 < q) (h : c * q = p * b) : b / gc c b = q / gc p q ∧ c / gc c b = p / gc p q := by
  have g1 : 0 < gc c b := gc_pos (.inr (by omega))
  have g2 : 0 < gc p q := gc_pos (.inr (by omega))
  have e : q * gc c b = b * gc p q := by
    rw [← gc_mul (by omega), ← gc_mul (by omega)]
    congr 1
    · rw [Int.mul_comm q c, h, Int.mul_comm]
    · exact Int.mul_comm _ _
  have b1 := ex_mul (gc_dvd2 c b) g1
  have c1 := ex_mul (gc_dvd1 c b) g1
  have q1 := ex_mul (gc_dvd2 p q) g2
  have p1 := ex_mul (gc_dvd1 p q) g2
  generalize b / gc c b = B at *
  generalize c / gc c b = Cc at *
  generalize q / gc p q = Qq at *
  generalize p / gc p q = Pp at *
  generalize gc c b = G at *
  generalize gc p q = K at *
  have gk : 0 < G * K := Int.mul_pos g1 g2
  have e1 : B = Qq := by
    refine cancel gk ?_
    rw [b1, q1] at e
    grind
  refine ⟨e1, ?_⟩
  have bp : 0 < B := by
    refine Classical.byContradiction fun z => ?_
    have := Int.mul_nonpos_of_nonneg_of_nonpos (Int.le_of_lt g1) (Int.not_lt.mp z)
    omega
  refine cancel (Int.mul_pos gk bp) ?_
  rw [c1, q1, p1, b1] at h
  subst e1
  grind
theorem dvd_sq {q m : Int} (h : q * q ∣ m * m) : q ∣ m := by
  have h1 : q.natAbs ^ 2 ∣ m.natAbs ^ 2 := by
    have := Int.natAbs_dvd_natAbs.mpr h
    rw [Int.natAbs_mul, Int.natAbs_mul] at this
    rw [Nat.pow_two, Nat.pow_two]
    exact this
  exact Int.natAbs_dvd_natAbs.mp ((Nat.pow_dvd_pow_iff (by decide)).mp h1)
theorem rat_root {a b c p q : Int} (g : Good a b c) (hp : 0 ≤ p) (hq : 1 ≤ q) (h : a * p * p + b * p * q = c * q * q) : parts a b c = (0, q / gc p q, p / gc p q) := by
  rcases g with ⟨rfl, b0, c0⟩ | ⟨a0, c0⟩
  · unfold parts
    rw [if_pos rfl]
    have h2 : c * q = p * b := by
      refine cancel (a := q) (by omega) ?_
      grind
    obtain ⟨e1, e2⟩ := low_eq (c := c) (b := b) (p := p) (q := q) (by omega) (by omega) h2
    rw [e1, e2]
  · have k : (b * b + 4 * a * c) * (q * q) = (2 * a * p + b * q) * (2 * a * p + b * q) := by grind
    obtain ⟨m, hm⟩ : q ∣ (2 * a * p + b * q) := dvd_sq ⟨b * b + 4 * a * c, by rw [← k, Int.mul_comm]⟩
    have qq : 0 < q * q := Int.mul_pos (by omega) (by omega)
    have d : b * b + 4 * a * c = m * m := by
      refine cancel qq ?_
      rw [hm] at k
      grind
    have hac : 0 < 4 * a * c := Int.mul_pos (by omega) (by omega)
    -- the root is m itself
    have m0 : 0 ≤ m := by
      refine Classical.byContradiction fun z => ?_
      have r := rt_gt (b := b) (r := -m) hac (by omega) (by rw [d]; grind)
      have e1 : 2 * a * p = q * (m - b) := by
        have : q * (m - b) = q * m - b * q := by grind
        omega
      have e2 : 0 ≤ 2 * a * p := Int.mul_nonneg (by omega) hp
      have e3 : q * (m - b) < 0 := Int.mul_neg_of_pos_of_neg (by omega) (by omega)
      omega
    have er : rt (b * b + 4 * a * c) = m := by
      refine (rt_of ⟨m0, by omega, ?_⟩).symm
      have : (m + 1) * (m + 1) = m * m + 2 * m + 1 := by grind
      omega
    unfold parts
    rw [if_neg (by omega), er, if_pos (by omega)]
    have h2 : (m - b) * q = p * (2 * a) := by
      have : (m - b) * q = q * m - b * q := by grind
      have : p * (2 * a) = 2 * a * p := by grind
      omega
    obtain ⟨e1, e2⟩ := low_eq (c := m - b) (b := 2 * a) (p := p) (q := q) (by omega) (by omega) h2
    rw [e1, e2]
theorem parts_prop {a b c a' b' c' : Int} (g : Good a b c) (g' : Good a' b' c') (h1 : a' * b = a * b') (h2 : a' * c = a * c') (h3 : b' * c = b * c') : parts a b c = parts a' b' c' := by
  rcases g with ⟨rfl, b0, c0⟩ | ⟨a0, c0⟩
  · have a1 : a' = 0 := by
      rw [Int.zero_mul] at h1
      rcases Int.mul_eq_zero.mp h1 with z | z <;> omega
    subst a1
    rcases g' with ⟨_, b0', c0'⟩ | g'
    · rw [rat_root (p := c) (q := b) (.inl ⟨rfl, b0, c0⟩) c0 b0 (by grind), rat_root (p := c) (q := b) (.inl ⟨rfl, b0', c0'⟩) c0 b0 ?_]
      have : b' * c * b = b * c' * b := by rw [h3]
      grind
    · omega
  · have gg : 1 ≤ a' ∧ 1 ≤ c' := by
      rcases g' with ⟨rfl, b1, c1⟩ | g'
      · rw [Int.zero_mul] at h1
        rcases Int.mul_eq_zero.mp h1.symm with z | z <;> omega
      · exact g'
    obtain ⟨a0', c0'⟩ := gg
    have ip := inside_pos (b := b) ⟨a0, c0⟩
    have ip' := inside_pos (b := b') ⟨a0', c0'⟩
    -- a root that is a fraction serves both
    have one : ∀ {r : Int}, 0 ≤ r → b * b + 4 * a * c = r * r → parts a b c = parts a' b' c' := fun {r} r0 e => by
      have rg := rt_gt ip.1 r0 e
      rw [rat_root (p := r - b) (q := 2 * a) (.inr ⟨a0, c0⟩) (by omega) (by omega) (by grind), rat_root (p := r - b) (q := 2 * a) (.inr ⟨a0', c0'⟩) (by omega) (by omega) ?_]
      refine cancel (a := a) (by omega) ?_
      have k : a' * (a * (r - b) * (r - b) + b * (r - b) * (2 * a)) = a' * (c * (2 * a) * (2 * a)) := by
        congr 1
        grind
      grind
    have two : ∀ {r : Int}, 0 ≤ r → b' * b' + 4 * a' * c' = r * r → parts a b c = parts a' b' c' := fun {r} r0 e => by
      have rg := rt_gt ip'.1 r0 e
      rw [rat_root (p := r - b') (q := 2 * a') (.inr ⟨a0', c0'⟩) (by omega) (by omega) (by grind), rat_root (p := r - b') (q := 2 * a') (.inr ⟨a0, c0⟩) (by omega) (by omega) ?_]
      refine cancel (a := a') (by omega) ?_
      have k : a * (a' * (r - b') * (r - b') + b' * (r - b') * (2 * a')) = a * (c' * (2 * a') * (2 * a')) := by
        congr 1
        grind
      grind
    by_cases e : rt (b * b + 4 * a * c) * rt (b * b + 4 * a * c) = b * b + 4 * a * c
    · exact one (rt_is ip.2).1 e.symm
    · by_cases e' : rt (b' * b' + 4 * a' * c') * rt (b' * b' + 4 * a' * c') = b' * b' + 4 * a' * c'
      · exact two (rt_is ip'.2).1 e'.symm
      · unfold parts
        rw [if_neg (by omega), if_neg e, if_neg (by omega), if_neg e']
        have G0 : 0 < gc (gc a b) c := gc_pos (.inr (by omega))
        have G0' : 0 < gc (gc a' b') c' := gc_pos (.inr (by omega))
        have eg : a' * gc (gc a b) c = a * gc (gc a' b') c' := by
          rw [← gc_mul (by omega), ← gc_mul (by omega), ← gc_mul (by omega), ← gc_mul (by omega), h1, h2, Int.mul_comm a' a]
        have x1 := ex_mul (Int.dvd_trans (gc_dvd1 (gc a b) c) (gc_dvd1 a b)) G0
        have x2 := ex_mul (Int.dvd_trans (gc_dvd1 (gc a b) c) (gc_dvd2 a b)) G0
        have x3 := ex_mul (gc_dvd2 (gc a b) c) G0
        have y1 := ex_mul (Int.dvd_trans (gc_dvd1 (gc a' b') c') (gc_dvd1 a' b')) G0'
        have y2 := ex_mul (Int.dvd_trans (gc_dvd1 (gc a' b') c') (gc_dvd2 a' b')) G0'
        have y3 := ex_mul (gc_dvd2 (gc a' b') c') G0'
        generalize a / gc (gc a b) c = A at *
        generalize b / gc (gc a b) c = B at *
        generalize c / gc (gc a b) c = D at *
        generalize a' / gc (gc a' b') c' = A' at *
        generalize b' / gc (gc a' b') c' = B' at *
        generalize c' / gc (gc a' b') c' = D' at *
        generalize gc (gc a b) c = G at *
        generalize gc (gc a' b') c' = G' at *
        have gg : 0 < G * G' := Int.mul_pos G0 G0'
        have ea : A = A' := by
          refine cancel gg ?_
          rw [x1, y1] at eg
          grind
        subst ea
        have Ap : 0 < A := by
          refine Classical.byContradiction fun z => ?_
          have := Int.mul_nonpos_of_nonneg_of_nonpos (Int.le_of_lt G0) (Int.not_lt.mp z)
          omega
        have ga : 0 < G * G' * A := Int.mul_pos gg Ap
        have eb : B = B' := by
          refine cancel ga ?_
          rw [x1, x2, y1, y2] at h1
          grind
        have ed : D = D' := by
          refine cancel ga ?_
          rw [x1, x3, y1, y3] at h2
          grind
        rw [eb, ed]
end RL

namespace RL
theorem mul_ab {x y X Y : Int} (hx : -X ≤ x ∧ x ≤ X) (hy : -Y ≤ y ∧ y ≤ Y) : -(X * Y) ≤ x * y ∧ x * y ≤ X * Y := by
  have X0 : 0 ≤ X := by omega
  have Y0 : 0 ≤ Y := by omega
  have a1 := Int.mul_nonneg (show 0 ≤ X - x by omega) (show 0 ≤ Y - y by omega)
  have a2 := Int.mul_nonneg (show 0 ≤ X + x by omega) (show 0 ≤ Y + y by omega)
  have a3 := Int.mul_nonneg (show 0 ≤ X - x by omega) (show 0 ≤ Y + y by omega)
  have a4 := Int.mul_nonneg (show 0 ≤ X + x by omega) (show 0 ≤ Y - y by omega)
  have e1 : (X - x) * (Y - y) = X * Y - X * y - x * Y + x * y := by grind
  have e2 : (X + x) * (Y + y) = X * Y + X * y + x * Y + x * y := by grind
  have e3 : (X - x) * (Y + y) = X * Y + X * y - x * Y - x * y := by grind
  have e4 : (X + x) * (Y - y) = X * Y - X * y + x * Y - x * y := by grind
  constructor <;> omega
structure Tiny (a b c : Int) : Prop where
  good : Good a b c
  ha : a ≤ 60
  hb : -61 ≤ b ∧ b ≤ 61
  hc : c ≤ 60
theorem Tiny.nn {a b c : Int} (h : Tiny a b c) : 0 ≤ a ∧ 0 ≤ c := by
  rcases h.good with g | g <;> omega
theorem off {a b c n N : Int} (t : Tiny a b c) (hN : 1 ≤ N) (hn : 0 ≤ n) (h1 : 0 ≤ Fv a b c n N) (h2 : Fv a b c (n + 1) N < 0) : n ≤ 62 * N ∧ Fv a b c n N ≤ 8000 * N := by
  obtain ⟨a0, c0⟩ := t.nn
  have nb : n ≤ 62 * N := by
    refine Classical.byContradiction fun q => ?_
    have q' : 62 * N < n := by omega
    rcases t.good with ⟨rfl, b0, _⟩ | ⟨a1, c1⟩
    · have e : Fv 0 b c n N = N * (c * N - b * n) := by unfold Fv; grind
      have k1 : n ≤ b * n := by
        have := Int.mul_le_mul_of_nonneg_right (a := 1) (b := b) (c := n) b0 hn
        omega
      have k2 : c * N ≤ 60 * N := Int.mul_le_mul_of_nonneg_right t.hc (by omega)
      have := Int.mul_neg_of_pos_of_neg (a := N) (b := c * N - b * n) (by omega) (by omega)
      omega
    · have k1 : n * n ≤ a * (n * n) := by
        have := Int.mul_le_mul_of_nonneg_right (a := 1) (b := a) (c := n * n) a1 (Int.mul_nonneg hn hn)
        omega
      have k2 : -61 * (n * N) ≤ b * (n * N) := Int.mul_le_mul_of_nonneg_right t.hb.1 (Int.mul_nonneg hn (by omega))
      have k3 : c * (N * N) ≤ 60 * (N * N) := Int.mul_le_mul_of_nonneg_right t.hc (Int.mul_nonneg (by omega) (by omega))
      have k4 : 62 * N * N ≤ n * (n - 61 * N) := Int.mul_le_mul (by omega) (by omega) (by omega) hn
      have e1 : Fv a b c n N = c * (N * N) - b * (n * N) - a * (n * n) := by unfold Fv; grind
      have e2 : n * (n - 61 * N) = n * n - 61 * (n * N) := by grind
      have e3 : 62 * N * N = 62 * (N * N) := by grind
      have k5 : 0 < N * N := Int.mul_pos (by omega) (by omega)
      omega
  refine ⟨nb, ?_⟩
  have e : Fv a b c n N - Fv a b c (n + 1) N = a * (2 * n + 1) + b * N := by unfold Fv; grind
  have k1 : a * (2 * n + 1) ≤ 60 * (2 * n + 1) := Int.mul_le_mul_of_nonneg_right t.ha (by omega)
  have k2 : b * N ≤ 61 * N := Int.mul_le_mul_of_nonneg_right t.hb.2 (by omega)
  omega
end RL

namespace RL
theorem Nrm.fv {a b c s l w x y : Int} (N : Nrm a b c s l w) (hx : 0 ≤ x) (hy : 1 ≤ y) : (Fv s l w x y < 0 ↔ Fv a b c x y < 0) ∧ (0 ≤ Fv s l w x y ↔ 0 ≤ Fv a b c x y) := by
  obtain ⟨k1, k2⟩ := N.sgn x y hx hy
  have e : Fv a b c x y = -(a * x * x + b * x * y - c * y * y) := by unfold Fv; omega
  have e2 : Fv s l w x y = w * y * y - l * x * y - s * x * x := rfl
  rw [e, e2]
  generalize w * y * y - l * x * y - s * x * x = u at *
  generalize a * x * x + b * x * y - c * y * y = v at *
  constructor <;> constructor <;> intro h <;> omega
theorem sg_nn {n : Int} (h : 0 ≤ sg n) : 0 ≤ n := by
  refine Classical.byContradiction fun z => ?_
  rw [sg_neg (by omega)] at h
  omega
theorem sg_m1 {n : Int} (h : sg n = -1) : n < 0 := by
  refine Classical.byContradiction fun z => ?_
  rcases Int.lt_or_le 0 n with q | q
  · rw [sg_pos q] at h
    omega
  · have : n = 0 := by omega
    subst this
    rw [sg_zero] at h
    omega
theorem flo_fv {a b c t : Int} (g : Good a b c) (ht : 1 ≤ t) : 0 ≤ flo a b c t ∧ 0 ≤ Fv a b c (flo a b c t) t ∧ Fv a b c (flo a b c t + 1) t < 0 := by
  obtain ⟨h0, h1, h2⟩ := flo_is g ht
  exact ⟨h0, sg_nn h1, sg_m1 h2⟩
abbrev ordP (p q : Int × Int × Int) : Int := ord p.1 p.2.1 p.2.2 q.1 q.2.1 q.2.2
theorem flo_lt {a b c a' b' c' t : Int} (g : Good a b c) (g' : Good a' b' c') (ht : 1 ≤ t) (h : flo a b c t < flo a' b' c' t) : ordP (parts a b c) (parts a' b' c') = -1 ∧ ordP (parts a' b' c') (parts a b c) = 1 := by
  obtain ⟨h0, h1, h2⟩ := flo_fv g ht
  obtain ⟨h0', h1', h2'⟩ := flo_fv g' ht
  have N := parts_nrm g
  have N' := parts_nrm g'
  have k : Fv a b c (flo a' b' c' t) t < 0 := fv_down g (by omega) ht h0' ht h2 (Int.mul_le_mul_of_nonneg_right (by omega) (by omega))
  have f := (N.fv h0' ht).1.mpr k
  have f' := (N'.fv h0' ht).2.mpr h1'
  exact ⟨ord_lt N.good N'.good h0' ht f f', ord_gt N.good N'.good h0' ht f f'⟩
def dueAt (a b c a' b' c' : Int) : List Nat → Int
  | [] => 0
  | n :: r => if flo a b c (10 ^ n) = flo a' b' c' (10 ^ n) then dueAt a b c a' b' c' r else if flo a b c (10 ^ n) < flo a' b' c' (10 ^ n) then -1 else 1
def dueV (a b c a' b' c' : Int) : Int := if parts a b c = parts a' b' c' then 0 else dueAt a b c a' b' c' [3, 12, 30]
/-! ### k + sqrt(k * k + 1) and sqrt(4 * k * k + 2) -/
/-! ### a number and a fraction -/
end RL

/-! The mathematics of rows of pieces: their maps, what they show. -/
namespace RL
abbrev Pc := Bool × Int
def PcOk (p : Pc) : Prop := 1 ≤ p.2 ∧ p.2 ≤ 12
structure Mx where
  a : Int
  b : Int
  c : Int
  d : Int
def stepM (m : Mx) (p : Pc) : Mx := if p.1 = true then ⟨m.a, m.a * p.2 + m.b, m.c, m.c * p.2 + m.d⟩ else ⟨m.a * p.2 + m.b, m.b * p.2, m.c * p.2 + m.d, m.d * p.2⟩
def stepS (s : Int) (p : Pc) : Int := if p.1 = true then s else s * p.2
def m1 : Mx := ⟨1, 0, 0, 1⟩
def matR (r : List Pc) : Mx := r.foldl stepM m1
def sclR (r : List Pc) : Int := r.foldl stepS 1
def Mx.app (m : Mx) (e : Int × Int) : Int × Int := (m.a * e.1 + m.b * e.2, m.c * e.1 + m.d * e.2)
def act (p : Pc) (e : Int × Int) : Int × Int := if p.1 = true then (e.1 + p.2 * e.2, e.2) else (p.2 * e.1, e.1 + p.2 * e.2)
def actR (r : List Pc) (e : Int × Int) : Int × Int := r.foldr act e
theorem app_step (m : Mx) (p : Pc) (e : Int × Int) : (stepM m p).app e = m.app (act p e) := by
  unfold stepM act Mx.app
  split <;> (ext <;> dsimp <;> grind)
theorem app_fold (r : List Pc) : ∀ (m : Mx) (e : Int × Int), (r.foldl stepM m).app e = m.app (actR r e) := by
  induction r with
  | nil => exact fun _ _ => rfl
  | cons p r ih =>
    intro m e
    rw [List.foldl_cons, ih, app_step]
    rfl
theorem app_one (e : Int × Int) : m1.app e = e := by
  unfold Mx.app m1
  ext <;> dsimp <;> omega
theorem mat_app (r : List Pc) (e : Int × Int) : (matR r).app e = actR r e := by
  unfold matR
  rw [app_fold, app_one]
theorem act_app (r r' : List Pc) (e : Int × Int) : actR (r ++ r') e = actR r (actR r' e) := List.foldr_append ..
def Pos2 (e : Int × Int) : Prop := 0 ≤ e.1 ∧ 0 ≤ e.2 ∧ (0 < e.1 ∨ 0 < e.2)
def sc (k : Int) (e : Int × Int) : Int × Int := (k * e.1, k * e.2)
theorem act_pos {p : Pc} {e : Int × Int} (hp : PcOk p) (h : Pos2 e) : Pos2 (act p e) := by
  obtain ⟨h1, h2, h3⟩ := h
  obtain ⟨q1, q2⟩ := hp
  have m1 := Int.mul_nonneg (show 0 ≤ p.2 by omega) h1
  have m2 := Int.mul_nonneg (show 0 ≤ p.2 by omega) h2
  unfold act Pos2
  split
  · dsimp
    omega
  · dsimp
    refine ⟨m1, by omega, ?_⟩
    rcases h3 with h3 | h3
    · exact .inl (Int.mul_pos (by omega) h3)
    · have := Int.mul_pos (show 0 < p.2 by omega) h3
      exact .inr (by omega)
def RowOk (r : List Pc) : Prop := ∀ p ∈ r, PcOk p
theorem RowOk.tail {p : Pc} {r : List Pc} (h : RowOk (p :: r)) : RowOk r := fun q hq => h q (List.mem_cons_of_mem _ hq)
theorem RowOk.head {p : Pc} {r : List Pc} (h : RowOk (p :: r)) : PcOk p := h p List.mem_cons_self
theorem RowOk.app {r r' : List Pc} (h : RowOk r) (h' : RowOk r') : RowOk (r ++ r') := fun q hq => (List.mem_append.mp hq).elim (h q) (h' q)
theorem actR_pos {r : List Pc} {e : Int × Int} (hr : RowOk r) (h : Pos2 e) : Pos2 (actR r e) := by
  induction r with
  | nil => exact h
  | cons p r ih => exact act_pos hr.head (ih hr.tail)
theorem act_sc (p : Pc) (k : Int) (e : Int × Int) : act p (sc k e) = sc k (act p e) := by
  unfold act sc
  split <;> (ext <;> dsimp <;> grind)
def frt (p : Pc) (e : Int × Int) : Int × Int := if p.1 = true then (e.1 + p.2 * e.2, e.2) else if e.2 = 0 then (p.2, 1) else (p.2 * e.1, p.2 * e.2 + e.1)
def frtR (r : List Pc) (e : Int × Int) : Int × Int := r.foldr frt e
theorem frt_act {p : Pc} {e : Int × Int} (hp : PcOk p) (h : Pos2 e) : ∃ k, 0 < k ∧ act p e = sc k (frt p e) := by
  unfold act frt sc
  split
  · exact ⟨1, by decide, by ext <;> dsimp <;> omega⟩
  · split
    · rename_i z
      refine ⟨e.1, by have := h.2.2; omega, ?_⟩
      ext
      · dsimp
        grind
      · dsimp
        rw [z]
        omega
    · exact ⟨1, by decide, by ext <;> dsimp <;> omega⟩
theorem frt_pos {p : Pc} {e : Int × Int} (hp : PcOk p) (h : Pos2 e) : Pos2 (frt p e) := by
  obtain ⟨k, hk, ek⟩ := frt_act hp h
  have := act_pos hp h
  rw [ek] at this
  unfold sc Pos2 at this
  obtain ⟨a, b, c⟩ := this
  have t1 : ∀ x : Int, 0 ≤ k * x → 0 ≤ x := fun x hx => by
    rcases Int.lt_or_le x 0 with z | z
    · have := Int.mul_neg_of_pos_of_neg hk z
      omega
    · exact z
  have t2 : ∀ x : Int, 0 < k * x → 0 < x := fun x hx => by
    rcases Int.lt_or_le 0 x with z | z
    · exact z
    · have := Int.mul_nonpos_of_nonneg_of_nonpos (Int.le_of_lt hk) z
      omega
  exact ⟨t1 _ a, t1 _ b, c.imp (t2 _) (t2 _)⟩
theorem frtR_pos {r : List Pc} {e : Int × Int} (hr : RowOk r) (h : Pos2 e) : Pos2 (frtR r e) := by
  induction r with
  | nil => exact h
  | cons p r ih => exact frt_pos hr.head (ih hr.tail)
theorem sc_sc (j k : Int) (e : Int × Int) : sc j (sc k e) = sc (j * k) e := by
  unfold sc
  ext <;> dsimp <;> grind
theorem frtR_act {r : List Pc} {e : Int × Int} (hr : RowOk r) (h : Pos2 e) : ∃ k, 0 < k ∧ actR r e = sc k (frtR r e) := by
  induction r with
  | nil => exact ⟨1, by decide, by unfold sc; ext <;> dsimp [actR, frtR] <;> omega⟩
  | cons p r ih =>
    obtain ⟨k, hk, ek⟩ := ih hr.tail
    obtain ⟨j, hj, ej⟩ := frt_act hr.head (frtR_pos hr.tail h)
    refine ⟨k * j, Int.mul_pos hk hj, ?_⟩
    show act p (actR r e) = sc (k * j) (frt p (frtR r e))
    rw [ek, act_sc, ej, sc_sc]
/-! ### lowest terms -/
def low (e : Int × Int) : Int × Int := (e.1 / gc e.1 e.2, e.2 / gc e.1 e.2)
theorem gc_pos2 {e : Int × Int} (h : Pos2 e) : 0 < gc e.1 e.2 := gc_pos (by have := h.2.2; omega)
theorem gc_sm {t b : Int} {n : Nat} (h : Pos2 (t, b)) (ht : Sm n t) (hb : Sm n b) : Sm n (gc t b) := by
  have g0 : 0 < gc t b := gc_pos2 h
  rcases h.2.2 with z | z
  · have := Int.le_of_dvd z (gc_dvd1 t b)
    exact ht.of (by omega) this
  · have := Int.le_of_dvd z (gc_dvd2 t b)
    exact hb.of (by omega) this
theorem low_sc {k : Int} (hk : 0 < k) (e : Int × Int) : low (sc k e) = low e := by
  unfold low sc
  dsimp
  rw [gc_mul (Int.le_of_lt hk), Int.mul_ediv_mul_of_pos _ _ hk, Int.mul_ediv_mul_of_pos _ _ hk]
theorem low_is {e : Int × Int} (h : Pos2 e) : e = sc (gc e.1 e.2) (low e) := by
  unfold low sc
  ext
  · exact ex_mul (gc_dvd1 _ _) (gc_pos2 h)
  · exact ex_mul (gc_dvd2 _ _) (gc_pos2 h)
theorem pos_sc {k : Int} {e : Int × Int} (hk : 0 < k) (h : Pos2 (sc k e)) : Pos2 e := by
  unfold sc Pos2 at h
  obtain ⟨a, b, c⟩ := h
  have t1 : ∀ x : Int, 0 ≤ k * x → 0 ≤ x := fun x hx => by
    rcases Int.lt_or_le x 0 with z | z
    · have := Int.mul_neg_of_pos_of_neg hk z
      omega
    · exact z
  have t2 : ∀ x : Int, 0 < k * x → 0 < x := fun x hx => by
    rcases Int.lt_or_le 0 x with z | z
    · exact z
    · have := Int.mul_nonpos_of_nonneg_of_nonpos (Int.le_of_lt hk) z
      omega
  exact ⟨t1 _ a, t1 _ b, c.imp (t2 _) (t2 _)⟩
theorem low_pos {e : Int × Int} (h : Pos2 e) : Pos2 (low e) := pos_sc (gc_pos2 h) (by rw [← low_is h]; exact h)
theorem low_low {e : Int × Int} (h : Pos2 e) : low (low e) = low e := by
  have := low_sc (gc_pos2 h) (low e)
  rw [← low_is h] at this
  exact this.symm
theorem shows_front {r : List Pc} {e : Int × Int} (hr : RowOk r) (h : Pos2 e) : low ((matR r).app e) = low (frtR r e) := by
  obtain ⟨k, hk, ek⟩ := frtR_act hr h
  rw [mat_app, ek, low_sc hk]
/-! ### the four fractions -/
/-! ### signs and sizes -/
def MxOk (m : Mx) : Prop := 0 ≤ m.a ∧ 0 ≤ m.b ∧ 0 ≤ m.c ∧ 0 ≤ m.d ∧ 0 < m.a * m.d - m.b * m.c
theorem step_ok {m : Mx} {p : Pc} (hp : PcOk p) (h : MxOk m) : MxOk (stepM m p) := by
  obtain ⟨h1, h2, h3, h4, h5⟩ := h
  have q0 : 0 ≤ p.2 := by have := hp.1; omega
  have z1 := Int.mul_nonneg h1 q0
  have z2 := Int.mul_nonneg h2 q0
  have z3 := Int.mul_nonneg h3 q0
  have z4 := Int.mul_nonneg h4 q0
  unfold stepM MxOk
  split
  · dsimp
    refine ⟨h1, by omega, h3, by omega, ?_⟩
    have : m.a * (m.c * p.2 + m.d) - (m.a * p.2 + m.b) * m.c = m.a * m.d - m.b * m.c := by grind
    omega
  · dsimp
    refine ⟨by omega, by omega, by omega, by omega, ?_⟩
    have : (m.a * p.2 + m.b) * (m.d * p.2) - m.b * p.2 * (m.c * p.2 + m.d) = p.2 * p.2 * (m.a * m.d - m.b * m.c) := by grind
    rw [this]
    have q1 : 0 < p.2 := by have := hp.1; omega
    exact Int.mul_pos (Int.mul_pos q1 q1) h5
theorem fold_ok {r : List Pc} : ∀ {m : Mx}, RowOk r → MxOk m → MxOk (r.foldl stepM m) := by
  induction r with
  | nil => exact fun _ h => h
  | cons p r ih => exact fun hr h => ih hr.tail (step_ok hr.head h)
theorem matR_ok {r : List Pc} (hr : RowOk r) : MxOk (matR r) := fold_ok hr ⟨by decide, by decide, by decide, by decide, by decide⟩
theorem scl_fold {r : List Pc} : ∀ {s : Int}, RowOk r → 0 < s → 0 < r.foldl stepS s := by
  induction r with
  | nil => exact fun _ h => h
  | cons p r ih =>
    intro s hr h
    refine ih hr.tail ?_
    unfold stepS
    split
    · exact h
    · exact Int.mul_pos h (by have := hr.head.1; omega)
theorem sclR_pos {r : List Pc} (hr : RowOk r) : 0 < sclR r := scl_fold hr (by decide)
def MxSm (n : Nat) (m : Mx) : Prop := Sm n m.a ∧ Sm n m.b ∧ Sm n m.c ∧ Sm n m.d
theorem ohm_sm {p : Pc} (hp : PcOk p) : Sm 4 p.2 := by
  obtain ⟨h1, h2⟩ := hp
  unfold Sm
  omega
theorem step_sm {m : Mx} {p : Pc} {n : Nat} (hp : PcOk p) (h : MxSm n m) : MxSm (n + 5) (stepM m p) := by
  obtain ⟨h1, h2, h3, h4⟩ := h
  have o := ohm_sm hp
  have up : ∀ {x : Int}, Sm n x → Sm (n + 4) x := fun z => z.mono (by omega)
  unfold stepM MxSm
  split
  · exact ⟨h1.mono (by omega), (h1.mul o).add (up h2), h3.mono (by omega), (h3.mul o).add (up h4)⟩
  · exact ⟨(h1.mul o).add (up h2), (h2.mul o).mono (by omega), (h3.mul o).add (up h4), (h4.mul o).mono (by omega)⟩
theorem fold_sm {r : List Pc} : ∀ {m : Mx} {n : Nat}, RowOk r → MxSm n m → MxSm (n + 5 * r.length) (r.foldl stepM m) := by
  induction r with
  | nil => exact fun _ h => h
  | cons p r ih =>
    intro m n hr h
    have := ih hr.tail (step_sm hr.head h)
    rw [List.foldl_cons, List.length_cons]
    have e : n + 5 * (r.length + 1) = n + 5 + 5 * r.length := by omega
    rw [e]
    exact this
theorem MxSm.mono {m n : Nat} {x : Mx} (h : MxSm m x) (l : m ≤ n) : MxSm n x := ⟨h.1.mono l, h.2.1.mono l, h.2.2.1.mono l, h.2.2.2.mono l⟩
theorem m1_sm : MxSm 1 m1 := ⟨by unfold Sm; decide, by unfold Sm; decide, by unfold Sm; decide, by unfold Sm; decide⟩
theorem matR_sm {r : List Pc} (hr : RowOk r) (hl : r.length ≤ 8) : MxSm 41 (matR r) := (fold_sm hr m1_sm).mono (by omega)
theorem scl_sm {r : List Pc} : ∀ {s : Int} {n : Nat}, RowOk r → Sm n s → Sm (n + 4 * r.length) (r.foldl stepS s) := by
  induction r with
  | nil => exact fun _ h => h
  | cons p r ih =>
    intro s n hr h
    rw [List.foldl_cons, List.length_cons]
    have e : n + 4 * (r.length + 1) = n + 4 + 4 * r.length := by omega
    rw [e]
    refine ih hr.tail ?_
    unfold stepS
    split
    · exact h.mono (by omega)
    · exact h.mul (ohm_sm hr.head)
theorem sclR_sm {r : List Pc} (hr : RowOk r) (hl : r.length ≤ 8) : Sm 41 (sclR r) := (scl_sm (n := 1) hr (by unfold Sm; decide)).mono (by omega)
theorem app_sm {m : Mx} {e : Int × Int} {j k : Nat} (h : MxSm j m) (h1 : Sm k e.1) (h2 : Sm k e.2) : Sm (j + k + 1) (m.app e).1 ∧ Sm (j + k + 1) (m.app e).2 :=
  ⟨(h.1.mul h1).add (h.2.1.mul h2), (h.2.2.1.mul h1).add (h.2.2.2.mul h2)⟩
/-! ### what is shown rises with the load -/
def below (e f : Int × Int) : Bool := decide (e.1 * f.2 < f.1 * e.2)
theorem below_sc {j k : Int} (hj : 0 < j) (hk : 0 < k) (e f : Int × Int) : below (sc j e) (sc k f) = below e f := by
  unfold below sc
  rw [Bool.eq_iff_iff, decide_eq_true_iff, decide_eq_true_iff]
  dsimp
  have h : 0 < j * k := Int.mul_pos hj hk
  have e1 : j * e.1 * (k * f.2) = j * k * (e.1 * f.2) := by grind
  have e2 : k * f.1 * (j * e.2) = j * k * (f.1 * e.2) := by grind
  rw [e1, e2]
  exact ⟨fun z => Int.lt_of_mul_lt_mul_left z (Int.le_of_lt h), fun z => Int.mul_lt_mul_of_pos_left z h⟩
theorem below_app {m : Mx} (h : MxOk m) (e f : Int × Int) : below (m.app e) (m.app f) = below e f := by
  unfold below Mx.app
  rw [Bool.eq_iff_iff, decide_eq_true_iff, decide_eq_true_iff]
  dsimp
  obtain ⟨_, _, _, _, hd⟩ := h
  have e1 : (m.a * e.1 + m.b * e.2) * (m.c * f.1 + m.d * f.2) - (m.a * f.1 + m.b * f.2) * (m.c * e.1 + m.d * e.2) = (m.a * m.d - m.b * m.c) * (e.1 * f.2 - f.1 * e.2) := by grind
  constructor
  · intro z
    rcases Int.lt_or_le (e.1 * f.2 - f.1 * e.2) 0 with y | y
    · omega
    · have := Int.mul_nonneg (Int.le_of_lt hd) y
      omega
  · intro z
    have := Int.mul_neg_of_pos_of_neg hd (show e.1 * f.2 - f.1 * e.2 < 0 by omega)
    omega
theorem below_low {e f : Int × Int} (he : Pos2 e) (hf : Pos2 f) : below (low e) (low f) = below e f := by
  conv => rhs; rw [low_is he, low_is hf]
  rw [below_sc (gc_pos2 he) (gc_pos2 hf)]
theorem app_pos {r : List Pc} {e : Int × Int} (hr : RowOk r) (h : Pos2 e) : Pos2 ((matR r).app e) := by
  rw [mat_app]
  exact actR_pos hr h
theorem below_shows {r : List Pc} {e f : Int × Int} (hr : RowOk r) (he : Pos2 e) (hf : Pos2 f) : below (low (frtR r e)) (low (frtR r f)) = below e f := by
  rw [← shows_front hr he, ← shows_front hr hf, below_low (app_pos hr he) (app_pos hr hf), below_app (matR_ok hr)]
end RL

/-! When two rows show the same: their four fractions. -/
namespace RL
theorem step_det (m : Mx) (p : Pc) : (stepM m p).a * (stepM m p).d - (stepM m p).b * (stepM m p).c = (if p.1 = true then 1 else p.2 * p.2) * (m.a * m.d - m.b * m.c) := by
  unfold stepM
  split <;> dsimp <;> grind
theorem fold_det (r : List Pc) : ∀ (m : Mx) (s : Int), m.a * m.d - m.b * m.c = s * s → (r.foldl stepM m).a * (r.foldl stepM m).d - (r.foldl stepM m).b * (r.foldl stepM m).c = (r.foldl stepS s) * (r.foldl stepS s) := by
  induction r with
  | nil => exact fun _ _ h => h
  | cons p r ih =>
    intro m s h
    rw [List.foldl_cons, List.foldl_cons]
    refine ih _ _ ?_
    rw [step_det, h]
    unfold stepS
    split
    · omega
    · grind
theorem matR_det (r : List Pc) : (matR r).a * (matR r).d - (matR r).b * (matR r).c = sclR r * sclR r := fold_det r m1 1 (by decide)
theorem low_cross {x y : Int × Int} (hx : Pos2 x) (hy : Pos2 y) (h : low x = low y) : ∃ g k : Int, 0 < g ∧ 0 < k ∧ sc k x = sc g y := by
  refine ⟨gc x.1 x.2, gc y.1 y.2, gc_pos2 hx, gc_pos2 hy, ?_⟩
  have e1 := low_is hx
  have e2 := low_is hy
  rw [h] at e1
  generalize gc x.1 x.2 = g at *
  generalize gc y.1 y.2 = k at *
  generalize low y = l at *
  rw [e1, e2]
  unfold sc
  ext <;> dsimp <;> grind
theorem sq_eq {x y : Int} (hx : 0 < x) (hy : 0 < y) (h : x * x = y * y) : x = y := by
  have e : (x - y) * (x + y) = 0 := by grind
  rcases Int.mul_eq_zero.mp e with z | z <;> omega
theorem three {A B C D s A' B' C' D' s' g1 k1 g2 k2 : Int} (hs : 0 < s) (hs' : 0 < s') (hg1 : 0 < g1) (hk1 : 0 < k1) (hg2 : 0 < g2) (hk2 : 0 < k2) (d : A * D - B * C = s * s) (d' : A' * D' - B' * C' = s' * s')
    (a1 : k1 * A = g1 * A') (c1 : k1 * C = g1 * C') (b2 : k2 * B = g2 * B') (d2 : k2 * D = g2 * D') (h3 : (A + B) * (C' + D') = (A' + B') * (C + D)) :
    A * s' = A' * s ∧ B * s' = B' * s ∧ C * s' = C' * s ∧ D * s' = D' * s := by
  have hss : 0 < s * s := Int.mul_pos hs hs
  have e1 : g2 * k1 * (s * s) = g1 * k2 * (s * s) := by
    have : g1 * g2 * ((A + B) * (C' + D')) = g1 * g2 * ((A' + B') * (C + D)) := by rw [h3]
    have l : g1 * g2 * ((A + B) * (C' + D')) = (A + B) * (g2 * (g1 * C') + g1 * (g2 * D')) := by grind
    have r : g1 * g2 * ((A' + B') * (C + D)) = (g2 * (g1 * A') + g1 * (g2 * B')) * (C + D) := by grind
    rw [l, r, ← c1, ← d2, ← a1, ← b2] at this
    rw [← d]
    grind
  have e2 : g2 * k1 = g1 * k2 := Int.eq_of_mul_eq_mul_right (by omega) e1
  have e3 : g1 * g2 * (s' * s') = k1 * k2 * (s * s) := by
    rw [← d, ← d']
    have : g1 * g2 * (A' * D' - B' * C') = (g1 * A') * (g2 * D') - (g2 * B') * (g1 * C') := by grind
    rw [this, ← a1, ← d2, ← b2, ← c1]
    grind
  have e4 : g2 * ((g1 * s') * (g1 * s')) = g2 * ((k1 * s) * (k1 * s)) := by
    have l : g2 * ((g1 * s') * (g1 * s')) = g1 * (g1 * g2 * (s' * s')) := by grind
    have r : g2 * ((k1 * s) * (k1 * s)) = (g2 * k1) * k1 * (s * s) := by grind
    rw [l, r, e3, e2]
    grind
  have e5 : (g1 * s') * (g1 * s') = (k1 * s) * (k1 * s) := Int.eq_of_mul_eq_mul_left (by omega) e4
  have e6 : g1 * s' = k1 * s := sq_eq (Int.mul_pos hg1 hs') (Int.mul_pos hk1 hs) e5
  have e7 : g2 * s' = k2 * s := by
    refine Int.eq_of_mul_eq_mul_left (a := g1) (by omega) ?_
    have l : g1 * (g2 * s') = g2 * (g1 * s') := by grind
    have r : g1 * (k2 * s) = (g1 * k2) * s := by grind
    rw [l, r, e6, ← e2]
    grind
  have fin : ∀ {g k X X' : Int}, 0 < g → k * X = g * X' → g * s' = k * s → X * s' = X' * s := fun {g k X X'} hg h1 h2 => by
    refine Int.eq_of_mul_eq_mul_left (a := g) (by omega) ?_
    have l : g * (X * s') = X * (g * s') := by grind
    have r : g * (X' * s) = (g * X') * s := by grind
    rw [l, r, h2, ← h1]
    grind
  exact ⟨fin hg1 a1 e6, fin hg2 b2 e7, fin hg1 c1 e6, fin hg2 d2 e7⟩
def fourOf (r : List Pc) : (Int × Int) × (Int × Int) × (Int × Int) × (Int × Int) := (low ((matR r).a, sclR r), low ((matR r).b, sclR r), low ((matR r).c, sclR r), low ((matR r).d, sclR r))
theorem low_frac_iff {x s x' s' : Int} (hs : 0 < s) (hs' : 0 < s') (h : x * s' = x' * s) : low (x, s) = low (x', s') := by
  obtain ⟨e1, e2⟩ := low_eq hs hs' h
  unfold low
  ext
  · exact e2
  · exact e1
theorem shows_four {r r' : List Pc} (hr : RowOk r) (hr' : RowOk r') (h0 : low ((matR r).app (0, 1)) = low ((matR r').app (0, 1))) (h1 : low ((matR r).app (1, 1)) = low ((matR r').app (1, 1))) (h2 : low ((matR r).app (1, 0)) = low ((matR r').app (1, 0))) : fourOf r = fourOf r' := by
  have p0 : Pos2 (0, 1) := ⟨by decide, by decide, .inr (by decide)⟩
  have p1 : Pos2 (1, 1) := ⟨by decide, by decide, .inr (by decide)⟩
  have p2 : Pos2 (1, 0) := ⟨by decide, by decide, .inl (by decide)⟩
  obtain ⟨g2, k2, hg2, hk2, e2⟩ := low_cross (app_pos hr p0) (app_pos hr' p0) h0
  obtain ⟨g1, k1, hg1, hk1, e1⟩ := low_cross (app_pos hr p2) (app_pos hr' p2) h2
  obtain ⟨g3, k3, hg3, hk3, e3⟩ := low_cross (app_pos hr p1) (app_pos hr' p1) h1
  unfold sc Mx.app at e1 e2 e3
  simp only [Prod.mk.injEq, Int.mul_zero, Int.mul_one, Int.zero_add, Int.add_zero] at e1 e2 e3
  have s0 := sclR_pos hr
  have s0' := sclR_pos hr'
  have cr : ((matR r).a + (matR r).b) * ((matR r').c + (matR r').d) = ((matR r').a + (matR r').b) * ((matR r).c + (matR r).d) := by
    obtain ⟨x1, x2⟩ := e3
    refine Int.eq_of_mul_eq_mul_left (a := k3 * g3) (by have := Int.mul_pos hk3 hg3; omega) ?_
    have l : k3 * g3 * (((matR r).a + (matR r).b) * ((matR r').c + (matR r').d)) = (k3 * ((matR r).a + (matR r).b)) * (g3 * ((matR r').c + (matR r').d)) := by grind
    have r0 : k3 * g3 * (((matR r').a + (matR r').b) * ((matR r).c + (matR r).d)) = (g3 * ((matR r').a + (matR r').b)) * (k3 * ((matR r).c + (matR r).d)) := by grind
    rw [l, r0, x1, x2]
  obtain ⟨fa, fb, fc, fd⟩ := three s0 s0' hg1 hk1 hg2 hk2 (matR_det r) (matR_det r') e1.1 e1.2 e2.1 e2.2 cr
  unfold fourOf
  rw [low_frac_iff s0 s0' fa, low_frac_iff s0 s0' fb, low_frac_iff s0 s0' fc, low_frac_iff s0 s0' fd]
end RL

/-! Limits of ladders: their equations, fixed points. -/
namespace RL
/-! ### a closer bound of a row's map -/
def MxLe (N : Int) (m : Mx) : Prop := 0 ≤ m.a ∧ m.a ≤ N ∧ 0 ≤ m.b ∧ m.b ≤ N ∧ 0 ≤ m.c ∧ m.c ≤ N ∧ 0 ≤ m.d ∧ m.d ≤ N
theorem step_le {m : Mx} {p : Pc} {N : Int} (hp : PcOk p) (h : MxLe N m) : MxLe (13 * N) (stepM m p) := by
  obtain ⟨a0, a1, b0, b1, c0, c1, d0, d1⟩ := h
  obtain ⟨o1, o2⟩ := hp
  have up : ∀ x : Int, 0 ≤ x → x ≤ N → 0 ≤ x * p.2 ∧ x * p.2 ≤ 12 * N := fun x h0 h1 => by
    refine ⟨Int.mul_nonneg h0 (by omega), ?_⟩
    have e1 : x * p.2 ≤ x * 12 := Int.mul_le_mul_of_nonneg_left o2 h0
    omega
  have ua := up _ a0 a1
  have ub := up _ b0 b1
  have uc := up _ c0 c1
  have ud := up _ d0 d1
  unfold stepM MxLe
  split <;> (dsimp only; omega)
theorem fold_le {r : List Pc} : ∀ {m : Mx} {N : Int}, RowOk r → MxLe N m → MxLe (13 ^ r.length * N) (r.foldl stepM m) := by
  induction r with
  | nil =>
    intro m N _ h
    show MxLe (13 ^ 0 * N) m
    rw [Int.pow_zero, Int.one_mul]
    exact h
  | cons p r ih =>
    intro m N hr h
    have := ih hr.tail (step_le hr.head h)
    rw [List.foldl_cons, show (p :: r).length = r.length + 1 from rfl, Int.pow_succ]
    rw [← Int.mul_assoc] at this
    exact this
theorem matR_le {r : List Pc} (hr : RowOk r) (l8 : r.length ≤ 8) : MxLe 815730721 (matR r) := by
  have h := fold_le (N := 1) hr (m := m1) ⟨by decide, by decide, by decide, by decide, by decide, by decide, by decide, by decide⟩
  have e : (13 : Int) ^ r.length * 1 ≤ 815730721 := by
    rw [Int.mul_one]
    have e8 : (13 : Int) ^ 8 = 815730721 := by decide
    rw [← e8]
    have h8 : (13 : Nat) ^ r.length ≤ 13 ^ 8 := Nat.pow_le_pow_right (by decide) l8
    have c1 : ((13 ^ r.length : Nat) : Int) = (13 : Int) ^ r.length := by rw [Int.natCast_pow]; rfl
    have c2 : ((13 ^ 8 : Nat) : Int) = (13 : Int) ^ 8 := by decide
    rw [← c1, ← c2]
    exact Int.ofNat_le.mpr h8
  obtain ⟨a0, a1, b0, b1, c0, c1, d0, d1⟩ := h
  exact ⟨a0, Int.le_trans a1 e, b0, Int.le_trans b1 e, c0, Int.le_trans c1 e, d0, Int.le_trans d1 e⟩
theorem sm30 {x : Int} (h0 : 0 ≤ x) (h1 : x ≤ 815730721) : Sm 30 x := by
  unfold Sm
  omega
theorem matR_sm30 {r : List Pc} (hr : RowOk r) (l8 : r.length ≤ 8) : MxSm 30 (matR r) := by
  obtain ⟨a0, a1, b0, b1, c0, c1, d0, d1⟩ := matR_le hr l8
  exact ⟨sm30 a0 a1, sm30 b0 b1, sm30 c0 c1, sm30 d0 d1⟩
/-! ### the equation of the limit -/
def eqL (r : List Pc) : Int × Int × Int := if (matR r).b = 0 then (0, 1, 0) else parts (matR r).c ((matR r).d - (matR r).a) (matR r).b
theorem fixed {m : Mx} {t u : Int} (h : m.c * t * t + (m.d - m.a) * t * u = m.b * u * u) : (m.app (t, u)).1 * u = t * (m.app (t, u)).2 := by
  unfold Mx.app
  dsimp only
  grind
def appN (m : Mx) : Nat → Int × Int → Int × Int
  | 0, e => e
  | n + 1, e => m.app (appN m n e)
theorem appN_pos {r : List Pc} {e : Int × Int} (hr : RowOk r) (h : Pos2 e) : ∀ n, Pos2 (appN (matR r) n e)
  | 0 => h
  | n + 1 => app_pos hr (appN_pos hr h n)
theorem appN_sm {r : List Pc} {e : Int × Int} {k : Nat} (hr : RowOk r) (l8 : r.length ≤ 8) (h1 : Sm k e.1) (h2 : Sm k e.2) : ∀ n, Sm (k + 31 * n) (appN (matR r) n e).1 ∧ Sm (k + 31 * n) (appN (matR r) n e).2
  | 0 => ⟨h1, h2⟩
  | n + 1 => by
    obtain ⟨i1, i2⟩ := appN_sm hr l8 h1 h2 n
    have := app_sm (matR_sm30 hr l8) i1 i2
    have e : k + 31 * (n + 1) = 30 + (k + 31 * n) + 1 := by omega
    rw [e]
    exact this
end RL

namespace RL
/-! ### joined patterns: products of their matrices -/
def Mx.mul (m n : Mx) : Mx := ⟨m.a * n.a + m.b * n.c, m.a * n.b + m.b * n.d, m.c * n.a + m.d * n.c, m.c * n.b + m.d * n.d⟩
theorem app_mul (m n : Mx) (e : Int × Int) : (m.mul n).app e = m.app (n.app e) := by
  unfold Mx.mul Mx.app
  ext <;> dsimp <;> grind
theorem mx_ext {m n : Mx} (h : ∀ e, m.app e = n.app e) : m = n := by
  have h1 := h (1, 0)
  have h2 := h (0, 1)
  unfold Mx.app at h1 h2
  simp at h1 h2
  obtain ⟨a, b, c, d⟩ := m
  obtain ⟨a', b', c', d'⟩ := n
  dsimp at h1 h2
  rw [h1.1, h1.2, h2.1, h2.2]
theorem mat_mul (r r' : List Pc) : matR (r ++ r') = (matR r).mul (matR r') := mx_ext fun e => by
  rw [app_mul, mat_app, mat_app, mat_app, act_app]
theorem mat_app2 (r r' : List Pc) (e : Int × Int) : (matR (r ++ r')).app e = (matR r).app ((matR r').app e) := by
  rw [mat_mul, app_mul]
/-! ### which way a ladder goes -/
def goV (m : Mx) (e : Int × Int) : Int := (m.app e).1 * e.2 - e.1 * (m.app e).2
/-! ### limits of joined ladders -/
end RL

namespace RL
/-! ### patterns from behind -/
def Mx.fl (m : Mx) : Mx := ⟨m.d, m.b, m.c, m.a⟩
theorem scl_foldl (r : List Pc) : ∀ s : Int, r.foldl stepS s = s * r.foldl stepS 1 := by
  induction r with
  | nil => intro s; simp
  | cons p r ih =>
    intro s
    rw [List.foldl_cons, List.foldl_cons, ih, ih (stepS 1 p)]
    unfold stepS
    split
    · rw [Int.one_mul]
    · rw [Int.one_mul, Int.mul_assoc]
theorem scl_app (r r' : List Pc) : sclR (r ++ r') = sclR r * sclR r' := by
  unfold sclR
  rw [List.foldl_append, scl_foldl]
/-! ### rows of both kinds -/
/-! ### the two limits -/
end RL

namespace RL
/-! ### rows of pieces with fractions as ohms; stars and rings -/
abbrev FPc := Bool × (Int × Int)
def FOk (p : FPc) : Prop := 1 ≤ p.2.1 ∧ 1 ≤ p.2.2 ∧ low p.2 = p.2
def fM (p : FPc) : Mx := if p.1 = true then ⟨p.2.2, p.2.1, 0, p.2.2⟩ else ⟨p.2.1, 0, p.2.2, p.2.1⟩
def frU (p : FPc) (e : Int × Int) : Int × Int := if p.1 = true then (e.1 * p.2.2 + p.2.1 * e.2, e.2 * p.2.2) else if e.2 = 0 then (p.2.1, p.2.2) else (p.2.1 * e.1, p.2.1 * e.2 + p.2.2 * e.1)
def frF (p : FPc) (e : Int × Int) : Int × Int := low (frU p e)
def frFR (r : List FPc) (e : Int × Int) : Int × Int := r.foldr frF e
theorem mul_pos' {a b : Int} (h : 0 < a) (k : 0 < b) : 0 < a * b := Int.mul_pos h k
def uM (w : Bool) (p q : Int) : Mx := if w = true then ⟨q, p, 0, q⟩ else ⟨p, 0, q, p⟩
def opt (w : Bool) (p q : Int) : List FPc := if (w = true ∧ p = 0) ∨ (w = false ∧ q = 0) then [] else [(w, low (p, q))]
/-! ### the scale beneath a and d -/
theorem fold_ge {r : List Pc} : ∀ {m : Mx} {s : Int}, RowOk r → 0 < s → 0 ≤ m.b → 0 ≤ m.c → s ≤ m.a → s ≤ m.d → r.foldl stepS s ≤ (r.foldl stepM m).a ∧ r.foldl stepS s ≤ (r.foldl stepM m).d := by
  induction r with
  | nil => exact fun _ _ _ _ h1 h2 => ⟨h1, h2⟩
  | cons p r ih =>
    intro m s hr s0 b0 c0 h1 h2
    obtain ⟨p1, p2⟩ := hr.head
    have m0 := Int.mul_nonneg c0 (show 0 ≤ p.2 by omega)
    have m1 := Int.mul_le_mul_of_nonneg_right h1 (show 0 ≤ p.2 by omega)
    have m2 := Int.mul_le_mul_of_nonneg_right h2 (show 0 ≤ p.2 by omega)
    have m3 := Int.mul_nonneg b0 (show 0 ≤ p.2 by omega)
    have m4 := mul_pos' s0 (show 0 < p.2 by omega)
    have m5 := Int.mul_nonneg (show 0 ≤ m.a by omega) (show 0 ≤ p.2 by omega)
    show (r.foldl stepS (stepS s p)) ≤ (r.foldl stepM (stepM m p)).a ∧ _
    refine ih hr.tail ?_ ?_ ?_ ?_ ?_ <;> (try unfold stepM) <;> (try unfold stepS) <;> split <;> (try dsimp) <;> omega
theorem scl_le {r : List Pc} (hr : RowOk r) : sclR r ≤ (matR r).a ∧ sclR r ≤ (matR r).d := fold_ge hr (by decide) (by decide) (by decide) (by decide) (by decide)
/-! ### stars and rings of rows -/
def starR (r : List Pc) : List FPc := if (matR r).c = 0 then [(true, low ((matR r).b, sclR r))] else opt true ((matR r).a - sclR r) (matR r).c ++ (opt false (sclR r) (matR r).c ++ opt true ((matR r).d - sclR r) (matR r).c)
def ringR (r : List Pc) : List FPc := if (matR r).b = 0 then [(false, low (sclR r, (matR r).c))] else opt false (matR r).b ((matR r).d - sclR r) ++ (opt true (matR r).b (sclR r) ++ opt false (matR r).b ((matR r).a - sclR r))
end RL

namespace RL
/-! ### stars and rings: their form, and those of short rows -/
def asF (r : List Pc) : List FPc := r.map fun p => (p.1, (p.2, 1))
end RL

/-! How fast ladders come near their limits. -/
namespace RL
theorem one_rail {q : Pc} (h : q.1 = true) : matR [q] = ⟨1, q.2, 0, 1⟩ ∧ sclR [q] = 1 := by
  refine ⟨?_, ?_⟩
  · show stepM m1 q = _
    unfold stepM m1
    rw [if_pos h]
    simp
  · show stepS 1 q = 1
    unfold stepS
    rw [if_pos h]
theorem one_rung {q : Pc} (h : q.1 = false) : matR [q] = ⟨q.2, 0, 1, q.2⟩ ∧ sclR [q] = q.2 := by
  refine ⟨?_, ?_⟩
  · show stepM m1 q = _
    unfold stepM m1
    rw [if_neg (by rw [h]; decide)]
    simp
  · show stepS 1 q = q.2
    unfold stepS
    rw [if_neg (by rw [h]; decide)]
    simp
theorem scl_pos' {r : List Pc} (hr : RowOk r) : 0 < sclR r := by
  induction r with
  | nil => decide
  | cons p r ih =>
    rw [show p :: r = [p] ++ r from rfl, scl_app]
    refine Int.mul_pos ?_ (ih hr.tail)
    cases hp : p.1
    · rw [(one_rung hp).2]
      have := hr.head.1
      omega
    · rw [(one_rail hp).2]
      decide
end RL

namespace RL
structure Quick (m : Mx) (s : Int) : Prop where
  s0 : 0 < s
  a1 : s ≤ m.a
  d1 : s ≤ m.d
  b1 : s ≤ m.b
  c1 : s ≤ 12 * m.c
  a2 : m.a ≤ 28561 * s
  b2 : m.b ≤ 28561 * s
  c2 : m.c ≤ 28561 * s
  det : m.a * m.d - m.b * m.c = s * s
  tr : 52 * s ≤ 25 * (m.a + m.d)
section
variable {m : Mx} {s : Int} {e : Int × Int}
end
end RL

namespace RL
theorem low_frt {r : List Pc} {e : Int × Int} (hr : RowOk r) (h : Pos2 e) : low (frtR r e) = low ((matR r).app e) := by
  obtain ⟨k, hk, ek⟩ := frtR_act hr h
  rw [mat_app, ek, low_sc hk]
end RL

/-! Repetitions of rows: the functions that the program computes. -/
namespace RL
def ch (t b : Int) : Nat → Int × Int → Int × Int
  | 0, e => e
  | n + 1, e => ((ch t b n e).2, t * (ch t b n e).2 - b * b * (ch t b n e).1)
def bis (P : Int → Bool) : Nat → Int → Int → Int
  | 0, lo, _ => lo
  | n + 1, lo, hi => if lo < hi then (if P ((lo + hi) / 2) = true then bis P n ((lo + hi) / 2 + 1) hi else bis P n lo ((lo + hi) / 2)) else lo
def bisR (P : Int → Bool) (lo hi : Int) : Int := bis P (hi - lo).toNat lo hi
def rootX (number : Int) (n : Nat) : Int := bisR (fun m => decide (m ^ n < number)) 1 number
def rootR (number : Int) (n : Nat) : Option Int := if rootX number n ^ n = number then some (rootX number n) else none
def sumX (n : Nat) (total b : Int) : Int := bisR (fun m => decide ((ch m b (n - 1) (2, m)).2 < total)) (2 * b) total
def sumR (n : Nat) (total b : Int) : Option Int := if (ch (sumX n total b) b (n - 1) (2, sumX n total b)).2 = total then some (sumX n total b) else none
def lostR (s top b : Int) (n : Nat) : Int := ((ch top b (n - 1) (0, 1)).2 - (ch top b (n - 1) (0, 1)).1 * b) * s
def rowT (m : Mx) (s b top : Int) (n : Nat) : Option (List FPc) :=
  if m.a * b ^ (n - 1) - lostR s top b n < 0 ∨ m.d * b ^ (n - 1) - lostR s top b n < 0 then none
  else some (opt true (m.a * b ^ (n - 1) - lostR s top b n) (m.c * b ^ (n - 1)) ++ (opt false ((ch top b (n - 1) (0, 1)).2 * s) (m.c * b ^ (n - 1)) ++ opt true (m.d * b ^ (n - 1) - lostR s top b n) (m.c * b ^ (n - 1))))
def rowR (m : Mx) (s total b : Int) (n : Nat) : Option (List FPc) := match sumR n total b with
  | none => none
  | some top => rowT m s b top n
def tryR (m : Mx) (s total bottom : Int) (n : Nat) : Option (List FPc) := match rootR bottom n with
  | none => none
  | some b => rowR m s total b n
def repL (m : Mx) (s total bottom : Int) : Nat → Option (Nat × List FPc)
  | 0 => none
  | n + 1 => match tryR m s total bottom (n + 1) with
    | some r => some (n + 1, r)
    | none => repL m s total bottom n

def repR (bitsN : Int → Nat) (r : List Pc) : Option (Nat × List FPc) :=
  if (matR r).b = 0 ∨ (matR r).c = 0 then none
  else repL (matR r) (sclR r) (low ((matR r).a + (matR r).d, sclR r)).1 (low ((matR r).a + (matR r).d, sclR r)).2 (bitsN (low ((matR r).a + (matR r).d, sclR r)).1)
/-! ### from behind -/
/-! ### bounds -/
end RL

/-! Stars and rings tell patterns apart; stars of patterns joined. -/
namespace RL
theorem low_ratio {x s y s' : Int} (hx : Pos2 (x, s)) (hy : Pos2 (y, s')) (h : low (x, s) = low (y, s')) : x * s' = y * s := by
  have e1 := low_is hx
  have e2 := low_is hy
  rw [← h] at e2
  have a1 : x = gc x s * (low (x, s)).1 := congrArg Prod.fst e1
  have a2 : s = gc x s * (low (x, s)).2 := congrArg Prod.snd e1
  have b1 : y = gc y s' * (low (x, s)).1 := congrArg Prod.fst e2
  have b2 : s' = gc y s' * (low (x, s)).2 := congrArg Prod.snd e2
  generalize gc x s = g at *
  generalize gc y s' = g' at *
  generalize (low (x, s)).1 = u at *
  generalize (low (x, s)).2 = v at *
  subst a1 a2 b1 b2
  grind
theorem four_ratio {r r' : List Pc} (hr : RowOk r) (hr' : RowOk r') (h : fourOf r = fourOf r') : sclR r' * (matR r).a = sclR r * (matR r').a ∧ sclR r' * (matR r).b = sclR r * (matR r').b ∧ sclR r' * (matR r).c = sclR r * (matR r').c ∧ sclR r' * (matR r).d = sclR r * (matR r').d := by
  have s0 := scl_pos' hr
  have s1 := scl_pos' hr'
  obtain ⟨a, b, c, d, _⟩ := matR_ok hr
  obtain ⟨a', b', c', d', _⟩ := matR_ok hr'
  have P : ∀ {x s : Int}, 0 ≤ x → 0 < s → Pos2 (x, s) := fun h1 h2 => ⟨h1, Int.le_of_lt h2, .inr h2⟩
  have k1 := congrArg (fun z => z.1) h
  have k2 := congrArg (fun z => z.2.1) h
  have k3 := congrArg (fun z => z.2.2.1) h
  have k4 := congrArg (fun z => z.2.2.2) h
  have f1 := low_ratio (P a s0) (P a' s1) k1
  have f2 := low_ratio (P b s0) (P b' s1) k2
  have f3 := low_ratio (P c s0) (P c' s1) k3
  have f4 := low_ratio (P d s0) (P d' s1) k4
  refine ⟨?_, ?_, ?_, ?_⟩ <;> grind
theorem shows_eq {r r' : List Pc} (hr : RowOk r) (hr' : RowOk r') (h : ∀ e, Pos2 e → low e = e → low (frtR r e) = low (frtR r' e)) : fourOf r = fourOf r' := by
  have p : ∀ e, Pos2 e → low e = e → low ((matR r).app e) = low ((matR r').app e) := fun e he hl => by
    rw [← low_frt hr he, ← low_frt hr' he, h e he hl]
  exact shows_four hr hr' (p _ ⟨by decide, by decide, .inr (by decide)⟩ (by decide)) (p _ ⟨by decide, by decide, .inr (by decide)⟩ (by decide)) (p _ ⟨by decide, by decide, .inl (by decide)⟩ (by decide))
end RL

/-! Patterns that never show more than others: the sign of a parabola from 0 on. -/
namespace RL
def sgn (n : Int) : Int := if n > 0 then 1 else if n < 0 then -1 else 0
theorem sgn_lt {n : Int} : sgn n < 0 ↔ n < 0 := by
  unfold sgn
  split
  · omega
  · split <;> omega
theorem sgn_ne {n : Int} : (sgn n != 0) = true ↔ n ≠ 0 := by
  unfold sgn
  split
  · simp; omega
  · split
    · simp; omega
    · simp; omega
def qS (m n : Mx) : Int := m.a * n.c - n.a * m.c
def qL (m n : Mx) : Int := m.a * n.d + m.b * n.c - n.a * m.d - n.b * m.c
def qW (m n : Mx) : Int := m.b * n.d - n.b * m.d
def qv (S L W : Int) (e : Int × Int) : Int := S * e.1 * e.1 + L * e.1 * e.2 + W * e.2 * e.2
def farS (S L W : Int) : Int := if (sgn S != 0) = true then sgn S else if (sgn L != 0) = true then sgn L else sgn W
theorem far_lt {S L W : Int} : farS S L W < 0 ↔ S < 0 ∨ (S = 0 ∧ (L < 0 ∨ (L = 0 ∧ W < 0))) := by
  unfold farS
  by_cases h : S = 0
  · rw [if_neg (fun z => sgn_ne.mp z h)]
    by_cases h' : L = 0
    · rw [if_neg (fun z => sgn_ne.mp z h'), sgn_lt]
      omega
    · rw [if_pos (sgn_ne.mpr h'), sgn_lt]
      omega
  · rw [if_pos (sgn_ne.mpr h), sgn_lt]
    omega
def nbB (S L W : Int) : Bool := decide (¬ (W < 0 ∨ farS S L W < 0) ∧ (S ≤ 0 ∨ L ≥ 0 ∨ L * L ≤ 4 * S * W))
theorem nb_all {S L W : Int} (h : nbB S L W = true) {e : Int × Int} (h1 : 0 ≤ e.1) (h2 : 0 ≤ e.2) : 0 ≤ qv S L W e := by
  have h := of_decide_eq_true h
  rw [far_lt] at h
  obtain ⟨t, b⟩ := e
  replace h1 : 0 ≤ t := h1
  replace h2 : 0 ≤ b := h2
  show 0 ≤ S * t * t + L * t * b + W * b * b
  have tt := Int.mul_nonneg h1 h1
  have tb := Int.mul_nonneg h1 h2
  have bb := Int.mul_nonneg h2 h2
  have w0 : 0 ≤ W * b * b := by
    rw [Int.mul_assoc]
    exact Int.mul_nonneg (by omega) bb
  rcases Int.lt_or_le 0 S with s | s
  · have s0 : 0 ≤ S * t * t := by
      rw [Int.mul_assoc]
      exact Int.mul_nonneg (by omega) tt
    rcases Int.lt_or_le L 0 with l | l
    · have k : L * L ≤ 4 * S * W := by omega
      have n1 := sq_nn (2 * S * t + L * b)
      have n2 := Int.mul_nonneg (show 0 ≤ 4 * S * W - L * L by omega) bb
      have e : 4 * S * (S * t * t + L * t * b + W * b * b) = (2 * S * t + L * b) * (2 * S * t + L * b) + (4 * S * W - L * L) * (b * b) := by grind
      rcases Int.lt_or_le (S * t * t + L * t * b + W * b * b) 0 with z | z
      · have := Int.mul_pos (show 0 < 4 * S by omega) (show 0 < -(S * t * t + L * t * b + W * b * b) by omega)
        have e2 : 4 * S * -(S * t * t + L * t * b + W * b * b) = -(4 * S * (S * t * t + L * t * b + W * b * b)) := by grind
        omega
      · exact z
    · have : 0 ≤ L * t * b := by
        rw [Int.mul_assoc]
        exact Int.mul_nonneg l tb
      omega
  · have s0 : S = 0 := by omega
    subst s0
    have l : 0 ≤ L := by omega
    have : 0 ≤ L * t * b := by
      rw [Int.mul_assoc]
      exact Int.mul_nonneg l tb
    rw [Int.zero_mul, Int.zero_mul]
    omega
def endsE (S L W : Int) : List (Int × Int) := [(0, 1), (1, 0)] ++ (if S ≠ 0 ∧ L ≠ 0 then [low ((L.natAbs : Int), 2 * (S.natAbs : Int))] else []) ++ (if L ≠ 0 then [low ((W.natAbs : Int) + 1, (L.natAbs : Int))] else [])
def lowE (S L W : Int) : Int × Int := if W < 0 then (0, 1) else if S < 0 then (1, 0) else if S = 0 then (W - L, -L) else (-L, 2 * S)
theorem nb_not {S L W : Int} (h : nbB S L W = false) : W < 0 ∨ S < 0 ∨ (S = 0 ∧ L < 0 ∧ 0 ≤ W) ∨ (0 < S ∧ L < 0 ∧ 0 ≤ W ∧ 4 * S * W < L * L) := by
  have h := of_decide_eq_false h
  rw [far_lt] at h
  omega
theorem q_two {S L W : Int} (h : S = 0 ∧ L < 0 ∧ 0 ≤ W) : qv S L W (W + 1, -L) < 0 ∧ qv S L W (W - L, -L) < 0 := by
  obtain ⟨rfl, l, w⟩ := h
  have n1 := Int.mul_pos (show 0 < -L by omega) (show 0 < -L by omega)
  have n2 := Int.mul_pos n1 (show 0 < -L by omega)
  unfold qv
  dsimp
  have e1 : (0 : Int) * (W + 1) * (W + 1) + L * (W + 1) * -L + W * -L * -L = -(-L * -L) := by grind
  have e2 : (0 : Int) * (W - L) * (W - L) + L * (W - L) * -L + W * -L * -L = -(-L * -L * -L) := by grind
  omega
theorem q_three {S L W : Int} (h : 0 < S ∧ L < 0 ∧ 0 ≤ W ∧ 4 * S * W < L * L) : qv S L W (-L, 2 * S) < 0 := by
  obtain ⟨s, l, w, k⟩ := h
  have n1 := Int.mul_pos s (show 0 < L * L - 4 * S * W by omega)
  unfold qv
  dsimp
  have e1 : S * -L * -L + L * -L * (2 * S) + W * (2 * S) * (2 * S) = -(S * (L * L - 4 * S * W)) := by grind
  omega
theorem lowE_pos {S L W : Int} (h : nbB S L W = false) : Pos2 (lowE S L W) := by
  unfold lowE
  have z := nb_not h
  split
  · exact ⟨by decide, by decide, .inr (by decide)⟩
  · split
    · exact ⟨by decide, by decide, .inl (by decide)⟩
    · split
      · exact ⟨by dsimp; omega, by dsimp; omega, .inr (by dsimp; omega)⟩
      · exact ⟨by dsimp; omega, by dsimp; omega, .inr (by dsimp; omega)⟩
theorem lowE_neg {S L W : Int} (h : nbB S L W = false) : qv S L W (lowE S L W) < 0 := by
  unfold lowE
  have z := nb_not h
  split
  · unfold qv
    dsimp
    simp
    omega
  · split
    · unfold qv
      dsimp
      simp
      omega
    · split
      · exact (q_two (by omega)).2
      · exact q_three (by omega)
theorem below_q {r r' : List Pc} (hr : RowOk r) (hr' : RowOk r') {e : Int × Int} (he : Pos2 e) : below (low (frtR r' e)) (low (frtR r e)) = decide (qv (qS (matR r') (matR r)) (qL (matR r') (matR r)) (qW (matR r') (matR r)) e < 0) := by
  rw [← shows_front hr he, ← shows_front hr' he, below_low (app_pos hr' he) (app_pos hr he)]
  unfold below Mx.app qv qS qL qW
  dsimp
  have e1 : ∀ {a b c d a' b' c' d' t u : Int}, (a' * c - a * c') * t * t + (a' * d + b' * c - a * d' - b * c') * t * u + (b' * d - b * d') * u * u = (a' * t + b' * u) * (c * t + d * u) - (a * t + b * u) * (c' * t + d' * u) := by
    intros
    grind
  rw [e1]
  exact decide_eq_decide.mpr (by omega)
theorem q_refl (m : Mx) : qS m m = 0 ∧ qL m m = 0 ∧ qW m m = 0 := by
  unfold qS qL qW
  refine ⟨by omega, ?_, by omega⟩
  grind
theorem nb_refl (m : Mx) : nbB (qS m m) (qL m m) (qW m m) = true := by
  obtain ⟨h1, h2, h3⟩ := q_refl m
  rw [h1, h2, h3]
  decide
theorem below_anti {e f : Int × Int} (h1 : below e f = false) (h2 : below f e = false) : e.1 * f.2 = f.1 * e.2 := by
  have h1 := of_decide_eq_false h1
  have h2 := of_decide_eq_false h2
  omega
theorem low_cross2 {e f : Int × Int} (he : Pos2 e) (hf : Pos2 f) (le : low e = e) (lf : low f = f) (h : e.1 * f.2 = f.1 * e.2) : e = f := by
  have k : sc (e.1 + e.2) f = sc (f.1 + f.2) e := by
    unfold sc
    refine Prod.ext ?_ ?_
    · dsimp
      have : (e.1 + e.2) * f.1 = e.1 * f.1 + f.1 * e.2 := by grind
      rw [this, ← h]
      grind
    · dsimp
      have : (e.1 + e.2) * f.2 = e.1 * f.2 + e.2 * f.2 := by grind
      rw [this, h]
      grind
  obtain ⟨a1, a2, a3⟩ := he
  obtain ⟨b1, b2, b3⟩ := hf
  have := congrArg low k
  rw [low_sc (by omega), low_sc (by omega), le, lf] at this
  exact this.symm
theorem nb_anti {r r' : List Pc} (hr : RowOk r) (hr' : RowOk r') (h : nbB (qS (matR r') (matR r)) (qL (matR r') (matR r)) (qW (matR r') (matR r)) = true) (h' : nbB (qS (matR r) (matR r')) (qL (matR r) (matR r')) (qW (matR r) (matR r')) = true) : fourOf r = fourOf r' := by
  refine shows_eq hr hr' fun e he hl => ?_
  have b1 : below (low (frtR r' e)) (low (frtR r e)) = false := by
    rw [below_q hr hr' he]
    exact decide_eq_false (by have := nb_all h he.1 he.2.1; omega)
  have b2 : below (low (frtR r e)) (low (frtR r' e)) = false := by
    rw [below_q hr' hr he]
    exact decide_eq_false (by have := nb_all h' he.1 he.2.1; omega)
  have p := frtR_pos hr he
  have p' := frtR_pos hr' he
  exact low_cross2 (low_pos p) (low_pos p') (low_low p) (low_low p') (below_anti b2 b1)
end RL

/-! Patterns ordered by what they show; the limits of their ladders. -/
namespace RL
structure TinyB (a b c : Int) : Prop where
  good : Good a b c
  ha : a ≤ 816000000
  hb : -816000001 ≤ b ∧ b ≤ 816000001
  hc : c ≤ 816000000
theorem TinyB.nn {a b c : Int} (h : TinyB a b c) : 0 ≤ a ∧ 0 ≤ c := by
  rcases h.good with g | g <;> omega
theorem offB {a b c n N : Int} (t : TinyB a b c) (hN : 1 ≤ N) (hn : 0 ≤ n) (h1 : 0 ≤ Fv a b c n N) (h2 : Fv a b c (n + 1) N < 0) : n ≤ 816000002 * N ∧ Fv a b c n N ≤ 1400000000000000000 * N := by
  obtain ⟨a0, c0⟩ := t.nn
  have nb : n ≤ 816000002 * N := by
    refine Classical.byContradiction fun q => ?_
    have q' : 816000002 * N < n := by omega
    rcases t.good with ⟨rfl, b0, _⟩ | ⟨a1, c1⟩
    · have e : Fv 0 b c n N = N * (c * N - b * n) := by unfold Fv; grind
      have k1 : n ≤ b * n := by
        have := Int.mul_le_mul_of_nonneg_right (a := 1) (b := b) (c := n) b0 hn
        omega
      have k2 : c * N ≤ 816000000 * N := Int.mul_le_mul_of_nonneg_right t.hc (by omega)
      have := Int.mul_neg_of_pos_of_neg (a := N) (b := c * N - b * n) (by omega) (by omega)
      omega
    · have k1 : n * n ≤ a * (n * n) := by
        have := Int.mul_le_mul_of_nonneg_right (a := 1) (b := a) (c := n * n) a1 (Int.mul_nonneg hn hn)
        omega
      have k2 : -816000001 * (n * N) ≤ b * (n * N) := Int.mul_le_mul_of_nonneg_right t.hb.1 (Int.mul_nonneg hn (by omega))
      have k3 : c * (N * N) ≤ 816000000 * (N * N) := Int.mul_le_mul_of_nonneg_right t.hc (Int.mul_nonneg (by omega) (by omega))
      have k4 : 816000002 * N * N ≤ n * (n - 816000001 * N) := Int.mul_le_mul (by omega) (by omega) (by omega) hn
      have e1 : Fv a b c n N = c * (N * N) - b * (n * N) - a * (n * n) := by unfold Fv; grind
      have e2 : n * (n - 816000001 * N) = n * n - 816000001 * (n * N) := by grind
      have e3 : 816000002 * N * N = 816000002 * (N * N) := by grind
      have k5 : 0 < N * N := Int.mul_pos (by omega) (by omega)
      omega
  refine ⟨nb, ?_⟩
  have e : Fv a b c n N - Fv a b c (n + 1) N = a * (2 * n + 1) + b * N := by unfold Fv; grind
  have k1 : a * (2 * n + 1) ≤ 816000000 * (2 * n + 1) := Int.mul_le_mul_of_nonneg_right t.ha (by omega)
  have k2 : b * N ≤ 816000001 * N := Int.mul_le_mul_of_nonneg_right t.hb.2 (by omega)
  omega
theorem sepB {a b c a' b' c' n : Int} (t : TinyB a b c) (t' : TinyB a' b' c') (hn : 0 ≤ n)
    (h1 : 0 ≤ Fv a b c n 1000000000000000000000000000000000000000000000000000000000000) (h2 : Fv a b c (n + 1) 1000000000000000000000000000000000000000000000000000000000000 < 0)
    (h1' : 0 ≤ Fv a' b' c' n 1000000000000000000000000000000000000000000000000000000000000) (h2' : Fv a' b' c' (n + 1) 1000000000000000000000000000000000000000000000000000000000000 < 0) : parts a b c = parts a' b' c' := by
  obtain ⟨nb, k1⟩ := offB t (by decide) hn h1 h2
  obtain ⟨_, k1'⟩ := offB t' (by decide) hn h1' h2'
  obtain ⟨a0, c0⟩ := t.nn
  obtain ⟨a0', c0'⟩ := t'.nn
  have bA := t.ha
  have bA' := t'.ha
  have bC := t.hc
  have bC' := t'.hc
  have e1 : a' * Fv a b c n 1000000000000000000000000000000000000000000000000000000000000 - a * Fv a' b' c' n 1000000000000000000000000000000000000000000000000000000000000 = -(1000000000000000000000000000000000000000000000000000000000000 * ((a' * b - a * b') * n - (a' * c - a * c') * 1000000000000000000000000000000000000000000000000000000000000)) := by unfold Fv; grind
  have m1 := mul_ab (x := a') (y := Fv a b c n 1000000000000000000000000000000000000000000000000000000000000) (X := 816000000) (Y := 1400000000000000000 * 1000000000000000000000000000000000000000000000000000000000000) (by omega) (by omega)
  have m1' := mul_ab (x := a) (y := Fv a' b' c' n 1000000000000000000000000000000000000000000000000000000000000) (X := 816000000) (Y := 1400000000000000000 * 1000000000000000000000000000000000000000000000000000000000000) (by omega) (by omega)
  have m1n : 0 ≤ a' * Fv a b c n 1000000000000000000000000000000000000000000000000000000000000 := Int.mul_nonneg a0' h1
  have m1n' : 0 ≤ a * Fv a' b' c' n 1000000000000000000000000000000000000000000000000000000000000 := Int.mul_nonneg a0 h1'
  -- the line's rest
  have eps : -1142400000000000000000000000 ≤ (a' * b - a * b') * n - (a' * c - a * c') * 1000000000000000000000000000000000000000000000000000000000000 ∧ (a' * b - a * b') * n - (a' * c - a * c') * 1000000000000000000000000000000000000000000000000000000000000 ≤ 1142400000000000000000000000 := by omega
  have s1 := mul_ab (x := a') (y := b) (X := 816000000) (Y := 816000001) (by omega) t.hb
  have s2 := mul_ab (x := a) (y := b') (X := 816000000) (Y := 816000001) (by omega) t'.hb
  have s3 := mul_ab (x := a') (y := c) (X := 816000000) (Y := 816000000) (by omega) (by omega)
  have s4 := mul_ab (x := a) (y := c') (X := 816000000) (Y := 816000000) (by omega) (by omega)
  have hs : -1331712001632000000 ≤ a' * b - a * b' ∧ a' * b - a * b' ≤ 1331712001632000000 := by omega
  have hh : -1331712000000000000 ≤ a' * c - a * c' ∧ a' * c - a * c' ≤ 1331712000000000000 := by omega
  -- the equation's own rest at the line's zero
  have rest : ∀ (u v w : Int), TinyB u v w → 0 ≤ Fv u v w n 1000000000000000000000000000000000000000000000000000000000000 → Fv u v w n 1000000000000000000000000000000000000000000000000000000000000 ≤ 1400000000000000000 * 1000000000000000000000000000000000000000000000000000000000000 →
      w * (a' * b - a * b') * (a' * b - a * b') - v * (a' * c - a * c') * (a' * b - a * b') - u * (a' * c - a * c') * (a' * c - a * c') = 0 := fun u v w tt f0 f1 => by
    obtain ⟨u0, w0⟩ := tt.nn
    have bu := tt.ha
    have bv := tt.hb
    generalize a' * b - a * b' = S at *
    generalize a' * c - a * c' = T at *
    generalize ee : S * n - T * 1000000000000000000000000000000000000000000000000000000000000 = ε at *
    have key : 1000000000000000000000000000000000000000000000000000000000000 * (1000000000000000000000000000000000000000000000000000000000000 * (w * S * S - v * T * S - u * T * T)) = S * S * Fv u v w n 1000000000000000000000000000000000000000000000000000000000000 + 1000000000000000000000000000000000000000000000000000000000000 * (ε * (v * S + 2 * u * T)) + u * (ε * ε) := by
      unfold Fv
      subst ee
      grind
    have q1 := mul_ab (x := S) (y := S) hs hs
    have q2 := mul_ab (x := S * S) (y := Fv u v w n 1000000000000000000000000000000000000000000000000000000000000) (X := 1331712001632000000 * 1331712001632000000) (Y := 1400000000000000000 * 1000000000000000000000000000000000000000000000000000000000000) q1 (by omega)
    have q3 := mul_ab (x := v) (y := S) bv hs
    have q4 := mul_ab (x := u) (y := T) (X := 816000000) (Y := 1331712000000000000) (by omega) hh
    have q5 := mul_ab (x := ε) (y := v * S + 2 * u * T) (X := 1142400000000000000000000000) (Y := 816000001 * 1331712001632000000 + 2 * (816000000 * 1331712000000000000)) eps (by
      have : 2 * u * T = 2 * (u * T) := by grind
      omega)
    have q6 := mul_ab (x := ε) (y := ε) eps eps
    have q7 := mul_ab (x := u) (y := ε * ε) (X := 816000000) (Y := 1142400000000000000000000000 * 1142400000000000000000000000) (by omega) q6
    omega
  have R := rest a b c t h1 k1
  have R' := rest a' b' c' t' h1' k1'
  have g := t.good
  have g' := t'.good
  by_cases z : a' * b - a * b' = 0
  · rw [z] at eps
    have z2 : a' * c - a * c' = 0 := by
      generalize a' * c - a * c' = T at *
      omega
    rcases g with ⟨rfl, b0, _⟩ | ⟨a1, c1⟩
    · have az : a' = 0 := by
        have : a' * b = 0 := by omega
        rcases Int.mul_eq_zero.mp this with y | y <;> omega
      subst az
      rcases g' with ⟨_, b0', _⟩ | g'
      · -- two fractions
        have bb := t.hb
        have bb' := t'.hb
        have e2 : Fv 0 b c n 1000000000000000000000000000000000000000000000000000000000000 - Fv 0 b c (n + 1) 1000000000000000000000000000000000000000000000000000000000000 = b * 1000000000000000000000000000000000000000000000000000000000000 := by unfold Fv; grind
        have e2' : Fv 0 b' c' n 1000000000000000000000000000000000000000000000000000000000000 - Fv 0 b' c' (n + 1) 1000000000000000000000000000000000000000000000000000000000000 = b' * 1000000000000000000000000000000000000000000000000000000000000 := by unfold Fv; grind
        have e3 : b' * Fv 0 b c n 1000000000000000000000000000000000000000000000000000000000000 - b * Fv 0 b' c' n 1000000000000000000000000000000000000000000000000000000000000 = 1000000000000000000000000000000000000000000000000000000000000 * (1000000000000000000000000000000000000000000000000000000000000 * (b' * c - b * c')) := by unfold Fv; grind
        have w1 := mul_ab (x := b') (y := Fv 0 b c n 1000000000000000000000000000000000000000000000000000000000000) (X := 816000001) (Y := 816000001 * 1000000000000000000000000000000000000000000000000000000000000) (by omega) (by omega)
        have w2 := mul_ab (x := b) (y := Fv 0 b' c' n 1000000000000000000000000000000000000000000000000000000000000) (X := 816000001) (Y := 816000001 * 1000000000000000000000000000000000000000000000000000000000000) (by omega) (by omega)
        refine parts_prop t.good t'.good (by omega) (by omega) ?_
        generalize b' * c = M at *
        generalize b * c' = M' at *
        omega
      · omega
    · refine parts_prop t.good t'.good (by omega) (by omega) ?_
      refine cancel (a := a) (by omega) ?_
      have y1 : a' * b = a * b' := by omega
      have y2 : a' * c = a * c' := by omega
      have : a * (b' * c) = a * b' * c := by grind
      rw [this, ← y1]
      have : a * (b * c') = b * (a * c') := by grind
      rw [this, ← y2]
      grind
  · generalize a' * b - a * b' = S at *
    generalize a' * c - a * c' = T at *
    rcases Int.lt_or_le 0 S with sp | sp
    · have T0 : 0 ≤ T := by
        have := Int.mul_nonneg (Int.le_of_lt sp) hn
        omega
      rw [rat_root (p := T) (q := S) t.good T0 sp (by grind), rat_root (p := T) (q := S) t'.good T0 sp (by grind)]
    · have T0 : 0 ≤ -T := by
        have := Int.mul_nonneg (show 0 ≤ -S by omega) hn
        have e : -S * n = -(S * n) := by grind
        omega
      rw [rat_root (p := -T) (q := -S) t.good T0 (by omega) (by grind), rat_root (p := -T) (q := -S) t'.good T0 (by omega) (by grind)]

theorem ordB {a b c a' b' c' : Int} (t : TinyB a b c) (t' : TinyB a' b' c') : ordP (parts a b c) (parts a' b' c') ≤ 0 ∨ ∃ x y : Int, 0 ≤ x ∧ 1 ≤ y ∧ 0 ≤ Fv a b c x y ∧ Fv a' b' c' x y < 0 := by
  have hN : (1 : Int) ≤ 1000000000000000000000000000000000000000000000000000000000000 := by decide
  obtain ⟨h0, h1, h2⟩ := flo_fv t.good hN
  obtain ⟨h0', h1', h2'⟩ := flo_fv t'.good hN
  rcases Int.lt_or_le (flo a b c 1000000000000000000000000000000000000000000000000000000000000) (flo a' b' c' 1000000000000000000000000000000000000000000000000000000000000) with z | z
  · have := (flo_lt t.good t'.good hN z).1
    omega
  · rcases Int.lt_or_le (flo a' b' c' 1000000000000000000000000000000000000000000000000000000000000) (flo a b c 1000000000000000000000000000000000000000000000000000000000000) with y | y
    · refine .inr ⟨_, _, h0, hN, h1, ?_⟩
      exact fv_down t'.good (by omega) hN h0 hN h2' (Int.mul_le_mul_of_nonneg_right (by omega) (by decide))
    · have e : flo a b c 1000000000000000000000000000000000000000000000000000000000000 = flo a' b' c' 1000000000000000000000000000000000000000000000000000000000000 := by omega
      rw [← e] at h1' h2'
      have := sepB t t' h0 h1 h2 h1' h2'
      rw [← this]
      have g := ord_self (parts_nrm t.good).good
      left
      show ord _ _ _ _ _ _ ≤ 0
      omega
def eqP (r : List Pc) : Int × Int × Int := if (matR r).b = 0 then (0, 1, 0) else ((matR r).c, (matR r).d - (matR r).a, (matR r).b)
theorem eqP_parts (r : List Pc) : eqL r = parts (eqP r).1 (eqP r).2.1 (eqP r).2.2 := by
  unfold eqL eqP
  split
  · decide
  · rfl
theorem eqP_tiny {r : List Pc} (hr : RowOk r) (l8 : r.length ≤ 8) (hc : (matR r).c ≠ 0) : TinyB (eqP r).1 (eqP r).2.1 (eqP r).2.2 := by
  obtain ⟨a0, a1, b0, b1, c0, c1, d0, d1⟩ := matR_le hr l8
  unfold eqP
  split
  · exact ⟨.inl ⟨rfl, by decide, by decide⟩, by decide, by decide, by decide⟩
  · rename_i z
    exact ⟨.inr ⟨by dsimp; omega, by dsimp; omega⟩, by dsimp; omega, by dsimp; omega, by dsimp; omega⟩
theorem goV_fv (m : Mx) (x y : Int) : goV m (x, y) = Fv m.c (m.d - m.a) m.b x y := by
  unfold goV Mx.app Fv
  dsimp
  grind
theorem rungs_ad {r : List Pc} (hr : RowOk r) (hb : (matR r).b = 0) : (matR r).a = (matR r).d := by
  have det := matR_det r
  obtain ⟨ga, gd⟩ := scl_le hr
  have s0 := sclR_pos hr
  rw [hb, Int.zero_mul] at det
  have h1 := Int.mul_le_mul_of_nonneg_left gd (show 0 ≤ (matR r).a by omega)
  have h2 := Int.mul_le_mul_of_nonneg_right ga (Int.le_of_lt s0)
  have h3 := Int.mul_le_mul_of_nonneg_right ga (show 0 ≤ (matR r).d by omega)
  have h4 := Int.mul_le_mul_of_nonneg_left gd (Int.le_of_lt s0)
  have e1 : (matR r).a * sclR r = sclR r * sclR r := by omega
  have e2 : sclR r * (matR r).d = sclR r * sclR r := by omega
  have a1 : (matR r).a = sclR r := Int.eq_of_mul_eq_mul_right (by omega) e1
  have d1 : (matR r).d = sclR r := Int.eq_of_mul_eq_mul_left (by omega) e2
  omega
theorem eqP_sign {r : List Pc} (hr : RowOk r) (hc : (matR r).c ≠ 0) {x y : Int} (hx : 0 ≤ x) (hy : 1 ≤ y) : (Fv (eqP r).1 (eqP r).2.1 (eqP r).2.2 x y < 0 ↔ goV (matR r) (x, y) < 0) ∧ (0 ≤ Fv (eqP r).1 (eqP r).2.1 (eqP r).2.2 x y ↔ 0 ≤ goV (matR r) (x, y)) := by
  rw [goV_fv]
  obtain ⟨a0, b0, c0, d0, _⟩ := matR_ok hr
  unfold eqP
  split
  · rename_i hb
    have ad := rungs_ad hr hb
    dsimp
    rw [hb, show (matR r).d - (matR r).a = 0 by omega]
    have e1 : Fv 0 1 0 x y = -(x * y) := by unfold Fv; grind
    have e2 : Fv (matR r).c 0 0 x y = -((matR r).c * (x * x)) := by unfold Fv; grind
    rw [e1, e2]
    rcases Int.lt_or_le 0 x with z | z
    · have n1 := Int.mul_pos z (show 0 < y by omega)
      have n2 := Int.mul_pos (show 0 < (matR r).c by omega) (Int.mul_pos z z)
      omega
    · have : x = 0 := by omega
      subst this
      rw [Int.zero_mul, Int.zero_mul, Int.mul_zero]
      omega
  · exact ⟨Iff.rfl, Iff.rfl⟩
theorem qv_go (m n : Mx) (e : Int × Int) : qv (qS m n) (qL m n) (qW m n) e * e.2 = goV m e * (n.app e).2 - goV n e * (m.app e).2 := by
  unfold qv qS qL qW goV Mx.app
  grind
theorem lim_le {r r' : List Pc} (hr : RowOk r) (hr' : RowOk r') (l8 : r.length ≤ 8) (l8' : r'.length ≤ 8) (h : nbB (qS (matR r') (matR r)) (qL (matR r') (matR r)) (qW (matR r') (matR r)) = true) : (matR r').c = 0 ∨ ((matR r).c ≠ 0 ∧ (matR r').c ≠ 0 ∧ ordP (eqL r) (eqL r') ≤ 0) := by
  by_cases hc' : (matR r').c = 0
  · exact .inl hc'
  right
  obtain ⟨a0, b0, c0, d0, dt⟩ := matR_ok hr
  obtain ⟨a0', b0', c0', d0', dt'⟩ := matR_ok hr'
  have s0 := sclR_pos hr
  have s0' := sclR_pos hr'
  obtain ⟨ga, gd⟩ := scl_le hr
  obtain ⟨ga', gd'⟩ := scl_le hr'
  have hc : (matR r).c ≠ 0 := fun z => by
    have q := nb_all h (e := (1, 0)) (by decide) (by decide)
    have e : qv (qS (matR r') (matR r)) (qL (matR r') (matR r)) (qW (matR r') (matR r)) (1, 0) = qS (matR r') (matR r) := by
      unfold qv
      dsimp
      simp
    rw [e] at q
    unfold qS at q
    rw [z, Int.mul_zero] at q
    have := Int.mul_pos (show 0 < (matR r).a by omega) (show 0 < (matR r').c by omega)
    omega
  refine ⟨hc, hc', ?_⟩
  rw [eqP_parts, eqP_parts]
  rcases ordB (eqP_tiny hr l8 hc) (eqP_tiny hr' l8' hc') with z | ⟨x, y, hx, hy, f1, f2⟩
  · exact z
  · exfalso
    have g1 := (eqP_sign hr hc hx hy).2.mp f1
    have g2 := (eqP_sign hr' hc' hx hy).1.mp f2
    have q := nb_all h (e := (x, y)) hx (by show 0 ≤ y; omega)
    have e := qv_go (matR r') (matR r) (x, y)
    have n0 : 0 < ((matR r).app (x, y)).2 := by
      unfold Mx.app
      dsimp
      have := Int.mul_nonneg c0 hx
      have := Int.mul_pos (show 0 < (matR r).d by omega) (show 0 < y by omega)
      omega
    have n0' : 0 < ((matR r').app (x, y)).2 := by
      unfold Mx.app
      dsimp
      have := Int.mul_nonneg c0' hx
      have := Int.mul_pos (show 0 < (matR r').d by omega) (show 0 < y by omega)
      omega
    have p1 := Int.mul_nonneg q (show 0 ≤ y by omega)
    have p2 := Int.mul_pos (show 0 < -goV (matR r') (x, y) by omega) n0
    have p3 := Int.mul_nonneg g1 (Int.le_of_lt n0')
    have e2 : -goV (matR r') (x, y) * ((matR r).app (x, y)).2 = -(goV (matR r') (x, y) * ((matR r).app (x, y)).2) := by grind
    replace e : qv (qS (matR r') (matR r)) (qL (matR r') (matR r)) (qW (matR r') (matR r)) (x, y) * y = goV (matR r') (x, y) * ((matR r).app (x, y)).2 - goV (matR r) (x, y) * ((matR r').app (x, y)).2 := e
    omega
/-! ### an order of patterns -/
def nmR (r r' : List Pc) : Bool := nbB (qS (matR r') (matR r)) (qL (matR r') (matR r)) (qW (matR r') (matR r))
def leP (e f : Int × Int) : Prop := e.1 * f.2 ≤ f.1 * e.2
theorem leP_trans {e f g : Int × Int} (he : Pos2 e) (hf : Pos2 f) (hg : Pos2 g) (h : leP e f) (k : leP f g) : leP e g := by
  unfold leP at *
  obtain ⟨e1, e2, e3⟩ := he
  obtain ⟨f1, f2, f3⟩ := hf
  obtain ⟨g1, g2, g3⟩ := hg
  rcases Int.lt_or_le 0 f.2 with z | z
  · have a := Int.mul_le_mul_of_nonneg_right h g2
    have b := Int.mul_le_mul_of_nonneg_right k e2
    have c1 : e.1 * f.2 * g.2 = f.2 * (e.1 * g.2) := by grind
    have c2 : f.1 * e.2 * g.2 = f.1 * g.2 * e.2 := by grind
    have c3 : g.1 * f.2 * e.2 = f.2 * (g.1 * e.2) := by grind
    exact Int.le_of_mul_le_mul_left (show f.2 * (e.1 * g.2) ≤ f.2 * (g.1 * e.2) by omega) z
  · have f0 : f.2 = 0 := by omega
    have p : 0 < f.1 := by omega
    rw [f0, Int.mul_zero] at k
    have g0 : g.2 = 0 := by
      rcases Int.lt_or_le 0 g.2 with y | y
      · have := Int.mul_pos p y
        omega
      · omega
    rw [g0, Int.mul_zero]
    exact Int.mul_nonneg g1 e2
theorem nm_iff {r r' : List Pc} (hr : RowOk r) (hr' : RowOk r') : nmR r r' = true ↔ ∀ e, Pos2 e → leP (low (frtR r e)) (low (frtR r' e)) := by
  constructor
  · intro h e he
    have b : below (low (frtR r' e)) (low (frtR r e)) = false := by
      rw [below_q hr hr' he]
      exact decide_eq_false (by have := nb_all h he.1 he.2.1; omega)
    have := of_decide_eq_false b
    unfold leP
    omega
  · intro h
    cases hb : nmR r r' with
    | true => rfl
    | false =>
      exfalso
      have lp := lowE_pos hb
      have ln := lowE_neg hb
      have b := below_q hr hr' lp
      rw [decide_eq_true ln] at b
      have b := of_decide_eq_true b
      have := h _ lp
      unfold leP at this
      omega
theorem nm_refl (r : List Pc) : nmR r r = true := nb_refl _
theorem nm_trans {r r' s : List Pc} (hr : RowOk r) (hr' : RowOk r') (hs : RowOk s) (h : nmR r r' = true) (k : nmR r' s = true) : nmR r s = true := by
  rw [nm_iff hr hs]
  intro e he
  exact leP_trans (low_pos (frtR_pos hr he)) (low_pos (frtR_pos hr' he)) (low_pos (frtR_pos hs he)) ((nm_iff hr hr').mp h e he) ((nm_iff hr' hs).mp k e he)
theorem nm_four {r r' : List Pc} (hr : RowOk r) (hr' : RowOk r') : (nmR r r' = true ∧ nmR r' r = true) ↔ fourOf r = fourOf r' := by
  constructor
  · rintro ⟨h, k⟩
    exact nb_anti hr hr' h k
  · intro h
    have e := four_ratio hr hr' h
    have s0 := sclR_pos hr
    have s0' := sclR_pos hr'
    have z : ∀ {u v u' v' : Int}, sclR r' * u = sclR r * u' → sclR r' * v = sclR r * v' → u' * v - u * v' = 0 := fun {u v u' v'} h1 h2 => by
      refine Int.eq_of_mul_eq_mul_left (a := sclR r * sclR r') (Int.ne_of_gt (Int.mul_pos s0 s0')) ?_
      have : sclR r * sclR r' * (u' * v - u * v') = (sclR r * u') * (sclR r' * v) - (sclR r' * u) * (sclR r * v') := by grind
      rw [this, ← h1, h2]
      grind
    obtain ⟨ea, eb, ec, ed⟩ := e
    have q : ∀ {x y x' y' : Int}, x' * y - x * y' = 0 → x * y' - x' * y = 0 := fun h => by omega
    have S1 : qS (matR r') (matR r) = 0 := z ea ec
    have W1 : qW (matR r') (matR r) = 0 := z eb ed
    have L1 : qL (matR r') (matR r) = 0 := by
      have h1 := z ea ed
      have h2 := z eb ec
      unfold qL
      omega
    have S2 : qS (matR r) (matR r') = 0 := by unfold qS at *; omega
    have W2 : qW (matR r) (matR r') = 0 := by unfold qW at *; omega
    have L2 : qL (matR r) (matR r') = 0 := by unfold qL at *; grind
    unfold nmR
    rw [S1, W1, L1, S2, W2, L2]
    decide
theorem frt_app2 {p r : List Pc} (hp : RowOk p) (hr : RowOk r) {e : Int × Int} (he : Pos2 e) : low (frtR (p ++ r) e) = low (frtR p (low (frtR r e))) := by
  have hpr : RowOk (p ++ r) := hp.app hr
  rw [← shows_front hpr he, mat_app2, ← shows_front hp (low_pos (frtR_pos hr he)), ← shows_front hr he]
  have P := app_pos hr he
  have e1 := low_is P
  have g := gc_pos2 P
  generalize (matR r).app e = u at *
  have : (matR p).app u = sc (gc u.1 u.2) ((matR p).app (low u)) := by
    conv => lhs; rw [e1]
    unfold Mx.app sc
    dsimp
    refine Prod.ext ?_ ?_ <;> (dsimp; grind)
  rw [this, low_sc g]
theorem leP_below {e f : Int × Int} : leP e f ↔ below f e = false := by
  unfold leP below
  rw [decide_eq_false_iff_not]
  omega
theorem nm_front {p r r' : List Pc} (hp : RowOk p) (hr : RowOk r) (hr' : RowOk r') (h : nmR r r' = true) : nmR (p ++ r) (p ++ r') = true := by
  rw [nm_iff (hp.app hr) (hp.app hr')]
  intro e he
  rw [frt_app2 hp hr he, frt_app2 hp hr' he, leP_below, below_shows hp (low_pos (frtR_pos hr' he)) (low_pos (frtR_pos hr he)), ← leP_below]
  exact (nm_iff hr hr').mp h e he
theorem nm_back {p r r' : List Pc} (hp : RowOk p) (hr : RowOk r) (hr' : RowOk r') (h : nmR r r' = true) : nmR (r ++ p) (r' ++ p) = true := by
  rw [nm_iff (hr.app hp) (hr'.app hp)]
  intro e he
  rw [frt_app2 hr hp he, frt_app2 hr' hp he]
  exact (nm_iff hr hr').mp h _ (low_pos (frtR_pos hp he))
end RL

/-! Defs that are called where no repr is under way: repr of lists and tuples within them; == by an own __eq__. -/
namespace RL
open PySem L2 PySem.Spec PyProof.Rows
structure FnG (P : Program) (w : World) (K : PySem.W.Frag) (mg : Str → Option Value) (base : Heap) (k : Nat) (f : Addr) (fd : FuncData) (ps : List Str) (sp : Sp) : Prop where
  len : ∀ vs H Q E, sp vs H Q E → vs.length = ps.length
  run : ∀ (A : Around) (outer : List Env) (s : Shared) (H : Hp) (args : Args) (us : List Value) (vs : List V) (Q : VK) (E : XK), A.guards = some [] → Room k A → Env0 P w K mg base A outer s H → BindsTo s fd args (ps.zip us) → Vals vs us → sp vs H Q E →
    codeAny (model P w) A (.call (.ref f) args) (CR CX0 outer P w H s Q E) s
section
variable {P : Program} {w : World} {K : PySem.W.Frag} {mg : Str → Option Value} {base : Heap}
theorem okG {x qual : Str} {st : Stmt} {f : Addr} {fd : FuncData} {N ps : List Str} {k : Nat} {sp : Sp} (F : Fun K x qual st f fd) (S : FnScope N ps (defScope st)) (len : ∀ vs H Q E, sp vs H Q E → vs.length = ps.length)
    (bd : ∀ (cdv : Value) (A : Around) (outer : List Env) (s : Shared) (H : Hp) (vs : List V) (Q : VK) (E : XK), A.guards = some [] → Room k (A.deeper (envOfC qual (defScope st) s.heap.objs.size f cdv)) → sp vs H Q E →
      ∃ t, PSs (cxOf CX0 P w K mg base N qual (defScope st) f cdv A outer s H E).nox (defBody st) t ∧ t { nx := fun _ H' => Q .non H', rt := Q } (start N vs) H) : FnG P w K mg base (k + 1) f fd ps sp := by
  obtain ⟨oc, od, kV, doc, pm, an, cdv, ct, osl, rfl, lk, hcd⟩ := F.ex
  refine ⟨len, fun A outer s H args us vs Q E hg hr e0 hb r hsp => ?_⟩
  have KX : K.In s.heap := e0.mod.kin.keeps fun b o e => (e0.bs b o e).1
  have lim := e0.mod.nolimit.keeps fun b o e => (e0.bs b o e).1
  refine codeAny_call_function hr.depth (KX _ _ lk) rfl S.co S.gen rfl (PySem.W.codeRec_of KX hcd) (hb _ _ _ _ (wpAny_newFunctionEnv_cells S.kind (fun ⟨n, v⟩ hy => ?_) fun env he s1 x => ?_))
  · exact (S.par n (List.of_mem_zip hy).1).imp id fun q => ⟨q, PySem.W.cellsFrom_some _ _ _ (.inl q)⟩
  · subst he
    obtain ⟨t, ht, hq⟩ := bd cdv A outer s H vs Q E hg (hr.deeper _) hsp
    have I : Inv (cxOf CX0 P w K mg base N qual (defScope st) f cdv A outer s H E) [] (start N vs) H s1 := inv_start S hr.hd e0 (len _ _ _ _ hsp) r x
    refine ⟨lim.keeps x.toInCall.keep, codeAny_func (wpAny_mono (ht.nox.run [] s1 _ H _ I hq) (fun fl s' hs => ?_) fun _ _ z => z)⟩
    cases fl with
    | ret u =>
      obtain ⟨v, σ', H', J, rv, q⟩ := hs
      exact ⟨v, H', J.os, J.bare, J.base, J.hok, rv, q⟩
    | next =>
      obtain ⟨σ', H', J, q⟩ := hs
      exact ⟨V.non, H', J.os, J.bare, J.base, J.hok, rfl, q⟩
    | brk => exact hs.elim fun _ z => z.elim fun _ y => False.elim y.2
    | cont => exact hs.elim fun _ z => z.elim fun _ y => False.elim y.2
end
structure DfG (P : Program) (w : World) (K : PySem.W.Frag) (mg : Str → Option Value) (base : Heap) (k : Nat) (x : Str) (ps : List Str) (sp : Sp) : Prop where
  ex : ∃ (f : Addr) (fd : FuncData), FnG P w K mg base k f fd ps sp ∧ mg x = some (.ref f) ∧ PySem.W.keepIn K (.ref f) = true ∧ Binds K fd ps []
section
variable {X : Cx} {k : Nat} {ps : List Str} {sp : Sp} {x : Str} {p pos : Pos} {e : Expr} {es : List Expr} {t : TA}
theorem pe_dfG (D : DfG X.prog X.w X.K X.mg X.base k x ps sp) (hG : X.A.guards = some []) (hr : Room k X.A) (hg : Gl X x)
    (ha : PA X (e :: es) t) (hdb : (x == ("__debug__" : Str)) = false := by decide) (he : starEach (e :: es) X.env = (false, eval e X.env) :: starEach es X.env := by rfl) (hpl : (backTo pos (starEach es X.env)).any (·.1) = false := by rfl) :
    PE X (.Call (.Name x p) (e :: es) [] pos) (tCall sp [] E0 t) := by
  obtain ⟨f, fd, F, hm, hk, hb⟩ := D.ex
  refine ⟨fun pins s σ H Q I h => wpAny_Call_Name_kw (ld_glob I hg hm (PySem.W.callWith_K (h₀ := X.base) I.ok.mod.kin hk (thn (ha.run pos pins s σ H _ I h) fun us s1 ⟨vs, H1, I1, r, q⟩ => ⟨I1.kIn, ?_⟩) he hpl) hdb)⟩
  have q0 : sp vs H1 Q E0 := by
    have q1 : sp (vs ++ []) H1 Q E0 := q
    rw [List.append_nil] at q1
    exact q1
  have hl : (us ++ []).length = ps.length := by
    rw [List.append_nil, ← r.length]
    exact F.len _ _ _ _ q0
  have hbb := hb s1 us I1.kIn hl
  rw [List.append_nil] at hbb
  refine wpAny_call (codeAny_mono (F.run X.A X.stack s1 H1 ⟨us, []⟩ us vs Q E0 hG hr I1.env0 hbb r q0) fun z s' hq => ?_)
  cases z with
  | error e => exact hq.elim
  | ok fl =>
    cases fl with
    | ret u => exact I1.after hq
    | next => exact hq.elim
    | brk => exact hq.elim
    | cont => exact hq.elim
/-! ### repr of a list or tuple of plain things -/
def rRepr (K : PySem.W.Frag) : List V → Hp → VK → Prop := fun vs H Q => ∃ (a : Addr) (d : PyData), vs = [.ref a] ∧ Dp K H (.ref a) d ∧ d.showable = true ∧ d.hasDict = false ∧ d.depth ≤ 40 ∧ d.shown.length ≤ sizeLine ∧ Q (.str d.shown) H
/-! ### == by an own __eq__ -/
def rEqOwn (K : PySem.W.Frag) (C : Addr) (sp : Sp) : R2 := fun x y H Q => ∃ a dx fs ty, x = .ref a ∧ H a = some (.ins C dx fs) ∧ TyX K H y ty ∧ PySem.W.notFirst K C ty = true ∧ sp [x, y] H Q E0
theorem op_eqOwn {C g : Addr} {fd : FuncData} (hs : PySem.W.findIn X.K (.ref C) "__eq__" = some (some (.ref g))) (hf : PySem.W.isFn X.K (.ref g) = true) (F : FnOk X.prog X.w X.K X.mg X.base CX0 k g fd ps sp) (hb : Binds X.K fd ps []) (hr : Room k X.A) :
    OpR X (compareOp .Eq) (rEqOwn X.K C sp) := by
  intro pins s σ H x y v u Q I rx ry h
  obtain ⟨a, dx, fs, ty, rfl, ha, hy, hn, q⟩ := h
  cases (show v = Value.ref a from rx)
  obtain ⟨mA, O, _⟩ := ins_get I.hok ha
  obtain ⟨od, J, _⟩ := O.look
  obtain ⟨PH, Z, ph, _⟩ := kit_of I ry hy
  obtain ⟨m, hF⟩ := I.fr
  show wpAny _ _ (richCompare .Eq (.ref a) u) _ _ _
  refine PySem.W.cmp_K (op := .Eq) hr.units0 hF I.ok.mod.kin J (Z.ty _ _ I.kIn ph) hn hs hf ?_
  have q0 : sp ([.ref a, y] ++ []) H Q E0 := q
  refine wpAny_mono (run_fn (us := [.ref a, u]) (vs := [.ref a, y]) F hr hb .nil pass0 I (.cons rfl (.cons ry .nil)) q0) (fun w s' z => ?_) fun _ _ z => z
  obtain ⟨z', H', I', rz, qz⟩ := z
  exact SlX.cmpback rz ⟨z', H', I', rz, qz⟩
end
end RL

/-! The end of a law whose own def is promised where no repr is under way. -/
namespace RL
open PySem L2 PySem.Spec PyProof.Rows
theorem law_runG {P : Program} {w : World} {K : PySem.W.Frag} {mg mb : Str → Option Value} {k : Nat} {fa a : Addr} {fd : FuncData} {x : Str} {sp : Sp} {s1 : Shared} {vs : List Value} {H : Hp}
    (KX : K.In s1.heap) (hns : s1.heap.Ns mainGlobals mg) (hb : s1.heap.Ns builtinsNs mb) (hbb : ∀ x : Str, x ≠ "__name__" → mb x = bootBuiltins x) (hlim : s1.heap.NoLimit) (hgen : s1.gens = #[])
    (ha : s1.heap.get? a = some { cls := .type "list", data := .seq vs.toArray }) (hr : Room k callerA)
    (F : ∀ base : Heap, K.In base → base.Ns mainGlobals mg → FnG P w K mg base k fa fd [x] sp) (hbind : ∀ (s : Shared) (u : Value), BindsTo s fd ⟨[u], []⟩ [(x, u)])
    (hO : Only H) (hsp : sp [.ref a] H (fun v _ => v = .bl true) fun _ _ _ => False) (hok : HOk P w H s1.heap) (hA : ∀ b u, H b = some u → b = a ∧ K.lookup a = none) :
    codeAny (model P w) callerA (.call (.ref fa) ⟨[.ref a], []⟩) (fun r s' => r = .ok (.ret (.bool true)) ∧ OldK s1.heap s'.heap ∧ s'.os = s1.os ∧ AllBare s'.gens) s1 := by
  have free : ∀ {b : Addr} {o : Obj}, s1.heap.get? b = some o → (b = a → o.data ≠ .seq vs.toArray) → H b = none := fun {b o} e n => by
    cases q : H b with
    | none => rfl
    | some u =>
      obtain ⟨rfl, _⟩ := hA b u q
      rw [ha] at e
      cases e
      exact absurd rfl (n rfl)
  have ns1 : ∀ {b : Addr} {m : Str → Option Value}, s1.heap.Ns b m → (hidT s1.heap H).Ns b m := fun {b m} ⟨o, es, ep, e, d, r⟩ => ⟨o, es, ep, hidT_get e (free e fun _ z => by rw [d] at z; cases z), d, r⟩
  have kin : K.In (hidT s1.heap H) := fun b o e => hidT_get (KX b o e) (by
    cases q : H b with
    | none => rfl
    | some u =>
      obtain ⟨rfl, z⟩ := hA b u q
      rw [z] at e
      cases e)
  obtain ⟨mc, c1, c2⟩ := hlim
  have e0 : Env0 P w K mg (hidT s1.heap H) callerA [] s1 H :=
    { frames := rfl, mod := ⟨kin, ns1 hns, ⟨mb, ns1 hb, hbb⟩, ⟨mc, ns1 c1, c2⟩⟩, bs := fun b o e => of_hidT e, bsz := Nat.le_of_eq (hidT_size _ _), funs := trivial, frf := fun b z => absurd (show b ∈ ([] : List Addr) from z) (by simp), hok := hok, bare := .of_eq hgen }
  refine codeAny_mono ((F _ kin (ns1 hns)).run callerA [] s1 H ⟨[.ref a], []⟩ [.ref a] [.ref a] _ _ rfl hr e0 (hbind s1 (.ref a)) (.cons rfl .nil) hsp) fun r s' h => ?_
  match r, h with
  | .ok (.ret u), ⟨v, H', os, bare, un, hok', r', q⟩ =>
    cases (show v = V.bl true from q)
    cases (show u = Value.bool true from r')
    refine ⟨rfl, OldK.of_keep fun b o e => ?_, os, bare⟩
    cases q2 : H b with
    | none => exact un.keep b o e q2 (fun z => absurd (show b ∈ ([] : List Addr) from z) (by simp)) (by simp)
    | some u =>
      rcases hO b with z | ⟨ob, xs, z⟩
      · rw [q2] at z
        cases z
      · obtain ⟨e1, _⟩ := hok b _ z
        obtain ⟨e2, _⟩ := hok' b _ (un.frzs b ob _ z)
        rw [e] at e1
        cases e1
        exact e2
theorem walk_ofG {l : PySem.W.OpenLaw} {n k : Nat} {q : Program} {loose : List Str} {XP : (Str → Option Value) → Heap → Prop} {YP : World → Heap → Prop} {d : DefRec} {K : Params → PySem.W.Frag} {sp : World → Sp} {x : Str}
    (hn : l.most = some n) (hn2 : n ≤ sizeLine) (hdf : d.params.defaults = []) (hr : Room k callerA) (hY : ∀ (w : World) (h : Heap), YP w h → (K w.params).In h)
    (F : ∀ (w : World) (mg : Str → Option Value) (fa : Addr) (h : Heap), (K w.params).In h → h.Ns mainGlobals mg → mg d.name = some (.ref fa) →
      ∃ fd : FuncData, (∀ (s : Shared) (u : Value), BindsTo s fd ⟨[u], []⟩ [(x, u)]) ∧ ∀ base : Heap, (K w.params).In base → base.Ns mainGlobals mg → FnG l.prog w (K w.params) mg base k fa fd [x] (sp w))
    (hsp : ∀ (w : World) (H : Hp) (a : Addr) (ns : List Int), ns.length ≤ n → Only H → SqL (K w.params) H a (ns.map V.int) → sp w [.ref a] H (fun v _ => v = .bl true) fun _ _ _ => False) :
    PySem.W.WalkO q loose XP YP l.row.toRowW d [] (fun f vs => PySem.call f vs) := by
  refine Att.attach_call hn hdf fun w s0 s1 mg mb fa o pm cd doc a vs ns G Y ho hd hcd hmg hobj hints hlen hgen => ?_
  have KX := hY w _ Y
  obtain ⟨fd, hb, hF⟩ := F w mg fa _ KX G.T.g hmg
  have rv := vals_ints hints
  have hl : ns.length ≤ sizeLine := Nat.le_trans hlen hn2
  have lenV := hints.length
  cases hk : (K w.params).lookup a with
  | some ob =>
    have e := KX a ob hk
    rw [hobj] at e
    cases e
    refine law_runG (H := fun _ => none) KX G.T.g G.T.b G.T.builtins G.T.nolimit hgen hobj hr hF hb (fun _ => .inl rfl) (hsp w _ a ns hlen (fun _ => .inl rfl) (.inr ⟨_, vs.toArray, _, hk, rfl, rfl, rfl, by rw [List.size_toArray, lenV]; exact hl, by simpa using rv⟩)) (fun b u z => ?_) fun b u z => ?_
    · cases (show (none : Option HO) = some u from z)
    · cases (show (none : Option HO) = some u from z)
  | none =>
    have only : Only (fun b => if b = a then some (HO.frz { cls := .type "list", data := .seq vs.toArray } (.lst (ns.map V.int))) else none) := fun b => by
      by_cases z : b = a
      · exact .inr ⟨_, _, if_pos z⟩
      · exact .inl (if_neg z)
    have at_ : ∀ {b : Addr} {u : HO}, (if b = a then some (HO.frz { cls := .type "list", data := .seq vs.toArray } (.lst (ns.map V.int))) else none) = some u → b = a ∧ u = HO.frz { cls := .type "list", data := .seq vs.toArray } (.lst (ns.map V.int)) := fun {b u} z => by
      by_cases y : b = a
      · rw [if_pos y] at z
        exact ⟨y, (Option.some.inj z).symm⟩
      · rw [if_neg y] at z
        cases z
    refine law_runG (H := fun b => if b = a then some (HO.frz { cls := .type "list", data := .seq vs.toArray } (.lst (ns.map V.int))) else none) KX G.T.g G.T.b G.T.builtins G.T.nolimit hgen hobj hr hF hb only (hsp w _ a ns hlen only (.inl (.inr ⟨_, if_pos rfl⟩))) (fun b u z => ?_) fun b u z => ⟨(at_ z).1, hk⟩
    obtain ⟨rfl, rfl⟩ := at_ z
    exact ⟨hobj, by rw [List.length_map]; exact hl, vs, _, rv, hobj⟩
end RL

/-! != of an own class with __eq__ alone; str and repr of its instances; a new one by keywords. -/
namespace RL
open PySem L2 PySem.Spec PyProof.Rows PySem.W Builtin
section
variable {prog : Program} {w : World} {A : Around} {E : Value → Shared → Prop} {s : Shared} {K : Frag} {x C L f : Addr} {h₀ : Heap} {m : Str → Option Value} {ox : Obj} {od : Option Obj} {b tb : Value}
theorem ne_entry {Q : Fin → Shared → Prop} (X : K.In s.heap) (I : InstAt s.heap x ox C od) (hs : findIn K (.ref C) "__eq__" = some (some (.ref f))) (hf : isFn K (.ref f) = true) (hu : A.units < cLine)
    (hc : wpAny (model prog w) A (call (.ref f) [.ref x, b]) (fun v s' => ∃ t, v = .bool t ∧ Q (.done (.ret (.bool (!t)))) s') E s) : wpAny (model prog w) A (Builtin.«object.__ne__» ⟨[.ref x, b], []⟩) Q E s := by
  unfold Builtin.«object.__ne__»
  repeat (first
    | with_reducible refine wpAny_cRoomFor hu ?_
    | (refine wpAny_bind (m := callSpecialIfBound? (.ref x) (Str.ofString "__eq__") [b])
        (ifBound_K X I hs hf (wpAny_mono hc (fun r s' hr => by
          obtain ⟨t, rfl, hq⟩ := hr
          repeat (first | exact hq | exact wpAny_pure hq | exact wpAny_truthy_bool hq | (refine wpAny_bind (m := truthy (.bool _)) (wpAny_truthy_bool ?_)) | wp_step)) fun _ _ z => z)))
    | wp_step)
theorem ne_try {Q : Value → Shared → Prop} (X : K.In s.heap) (I : InstAt s.heap x ox C od) (hne : findIn K (.ref C) "__ne__" = some (some (.builtin "object.__ne__"))) (hsub : subIn K (.ref C) (.type "object") = some true) (hs : findIn K (.ref C) "__eq__" = some (some (.ref f))) (hf : isFn K (.ref f) = true) (hu : A.units + 1 < cLine)
    (hc : wpAny (model prog w) A.in1 (call (.ref f) [.ref x, b]) (fun v s' => ∃ t, v = .bool t ∧ Q (.bool (!t)) s') E s) : wpAny (model prog w) A (tryCompare (.ref x) "__ne__" b) (fun r s' => ∃ v, r = some v ∧ Q v s') E s := by
  unfold tryCompare
  have go : wpAny (model prog w) A (call (.builtin "object.__ne__") [.ref x, b]) (fun v s' => ∃ t, v = .bool t ∧ Q v s') E s := by
    refine wpAny_call (codeAny_call_builtin PySem.F.cmp_object.ne.plain PySem.F.cmpEntry_ne (@check_slot (model prog w) _ _ s "object.__ne__" "object" "__ne__" (.ref x) [b] [] _ PySem.F.cmpKind_ne PySem.F.cmpSplit_ne (I.type.andThen (looks_subIn X hsub)) (PySem.F.cmpArgs_ne _ _) ?_))
    exact ne_entry (A := A.in1) X I hs hf hu (wpAny_mono hc (fun v s' hv => by obtain ⟨t, rfl, q⟩ := hv; exact ⟨t, rfl, ⟨_, rfl, q⟩⟩) fun _ _ z => z)
  have bd : wpAny (model prog w) A (callSpecialIfBound? (.ref x) "__ne__" [b]) (fun r s' => ∃ t, r = some (.bool t) ∧ Q (.bool t) s') E s := by
    simp only [callSpecialIfBound?, bindSpecialIfBound?]
    refine wpAny_holding (wpAny_bind (wpAny_bind (wpAny_bind (I.type.here ((looks_findIn X hne).here ?_)))))
    refine wpAny_bind (wpAny_askSetting (wpAny_ite ?_))
    have fin : wpAny (model prog w) A (call (.builtin "object.__ne__") ([.ref x] ++ [b]) >>= fun v => pure (some v)) (fun r s' => ∃ t, r = some (.bool t) ∧ Q (.bool t) s') E s := wpAny_bind (wpAny_mono go (fun v s' ⟨t, e, q⟩ => wpAny_pure ⟨t, by rw [e], e ▸ q⟩) fun _ _ z => z)
    have e := PySem.F.cmp_object.ne.bind (.ref x)
    split
    · exact wpAny_bind (wpAny_of_eq e (wpAny_pure (by exact fin)))
    · exact wpAny_tryCatch (wpAny_bind (wpAny_of_eq e (wpAny_pure (by exact fin))))
  refine wpAny_bind (wpAny_mono bd (fun r s' hr => ?_) fun _ _ z => z)
  obtain ⟨t, rfl, q⟩ := hr
  exact wpAny_pure ⟨_, rfl, q⟩
theorem ne_K {Q : Value → Shared → Prop} (hu : A.units + 1 < cLine) (F : Fr h₀ L s.heap m) (X₀ : K.In h₀) (I : InstAt s.heap x ox C od) (hb : Looks (model prog w) s.heap (typeOf b) tb) (hn : notFirst K C tb = true)
    (hne : findIn K (.ref C) "__ne__" = some (some (.builtin "object.__ne__"))) (hsub : subIn K (.ref C) (.type "object") = some true) (hs : findIn K (.ref C) "__eq__" = some (some (.ref f))) (hf : isFn K (.ref f) = true)
    (h : wpAny (model prog w) A.in1 (call (.ref f) [.ref x, b]) (fun v s' => ∃ t, v = .bool t ∧ Q (.bool (!t)) s') E s) : wpAny (model prog w) A (richCompare .NotEq (.ref x) b) Q E s := by
  have X := X₀.keeps F.keep
  have one := ne_try (A := A) (b := b) (Q := Q) X I hne hsub hs hf hu h
  have last : ∀ (r : Option Value) (s' : Shared), (∃ v, r = some v ∧ Q v s') → ∃ v, r = some v ∧ Q v s' := fun _ _ z => z
  unfold richCompare
  simp only [oneThing_ref]
  refine wpAny_holding (wpAny_bind (wpAny_cRoomFor (Nat.lt_of_succ_lt hu) (wpAny_bind (I.type.here (wpAny_bind (hb.here ?_))))))
  split
  · rename_i q
    have e : subIn K tb (.ref C) = some false := (Bool.or_eq_true_iff.mp hn).elim (fun z => by rw [beq_iff_eq.mp z] at q; simp at q) beq_iff_eq.mp
    refine wpAny_bind ((looks_subIn X e).here ?_)
    simp only [Bool.false_eq_true, if_false]
    exact wpAny_bind (wpAny_mono one (fun r s' ⟨v, e, hq⟩ => by subst e; exact wpAny_pure hq) fun _ _ z => z)
  · refine wpAny_bind (wpAny_pure ?_)
    simp only [Bool.false_eq_true, if_false]
    exact wpAny_bind (wpAny_mono one (fun r s' ⟨v, e, hq⟩ => by subst e; exact wpAny_pure hq) fun _ _ z => z)
end
section
variable {X : Cx} {k : Nat} {ps : List Str} {sp : Sp} {C g : Addr} {fd : FuncData}
def rNeOwn (K : PySem.W.Frag) (C : Addr) (sp : Sp) : R2 := fun x y H Q => ∃ a dx fs ty, x = .ref a ∧ H a = some (.ins C dx fs) ∧ TyX K H y ty ∧ PySem.W.notFirst K C ty = true ∧ sp [x, y] H (fun v H' => ∃ t, v = .bl t ∧ Q (.bl (!t)) H') E0
theorem op_neOwn (hne : PySem.W.findIn X.K (.ref C) "__ne__" = some (some (.builtin "object.__ne__"))) (hsub : PySem.W.subIn X.K (.ref C) (.type "object") = some true) (hs : PySem.W.findIn X.K (.ref C) "__eq__" = some (some (.ref g))) (hf : PySem.W.isFn X.K (.ref g) = true)
    (F : FnOk X.prog X.w X.K X.mg X.base CX0 k g fd ps sp) (hb : Binds X.K fd ps []) (hr : Room (k + 1) X.A) : OpR X (compareOp .NotEq) (rNeOwn X.K C sp) := by
  intro pins s σ H x y v u Q I rx ry h
  obtain ⟨a, dx, fs, ty, rfl, ha, hy, hn, q⟩ := h
  cases (show v = Value.ref a from rx)
  obtain ⟨mA, O, _⟩ := ins_get I.hok ha
  obtain ⟨od, J, _⟩ := O.look
  obtain ⟨PH, Z, ph, _⟩ := kit_of I ry hy
  obtain ⟨m, hF⟩ := I.fr
  show wpAny _ _ (richCompare .NotEq (.ref a) u) _ _ _
  refine ne_K (hu_of hr) hF I.ok.mod.kin J (Z.ty _ _ I.kIn ph) hn hne hsub hs hf ?_
  have hl : ([Value.ref a, u] ++ []).length = ps.length := F.len _ _ _ _ q
  have hbb := hb s [.ref a, u] I.kIn hl
  refine wpAny_call (codeAny_mono (F.run X.A.in1 X.stack s H ⟨[.ref a, u], []⟩ [.ref a, u] [.ref a, y] _ E0 hr.in1 I.env0.in1 hbb (.cons rfl (.cons ry .nil)) q) fun z s' hq => ?_)
  match z, hq with
  | .ok (.ret w'), hq =>
    obtain ⟨v', H', I', rv, t, e, qz⟩ := I.after hq
    subst e
    cases (show w' = Value.bool t from rv)
    exact ⟨t, rfl, .bl (!t), H', I', rfl, qz⟩
/-! ### str and repr of an instance -/
def rTextOwn (C : Addr) (sp : Sp) : List V → Hp → VK → Prop := fun vs H Q => ∃ a dx fs, vs = [.ref a] ∧ H a = some (.ins C dx fs) ∧ sp [.ref a] H (fun z H' => ∃ y : Str, z = .str y ∧ Q z H') E0
end
end RL

/-! The texts of numbers, and that repr of what is told fits. -/
namespace RL
open PySem L2
def ts (i : Int) : Str := Str.ofString (toString i)
structure OkT (n : Nat) (x : Str) : Prop where
  len : x.length ≤ n
  cps : ∀ c ∈ x.cps.toList, c < 16 ^ 8
theorem OkT.mono {m n : Nat} {x : Str} (h : OkT m x) (l : m ≤ n) : OkT n x := ⟨Nat.le_trans h.len l, h.cps⟩
theorem OkT.of (s : String) : OkT s.length (Str.ofString s) := by
  refine ⟨Nat.le_of_eq (ofString_length s), fun c hc => ?_⟩
  rw [PyProof.Rows.signs_ofString] at hc
  obtain ⟨ch, _, rfl⟩ := List.mem_map.mp hc
  have h1 : ch.toNat < 2 ^ 32 := ch.val.toNat_lt
  have h2 : (16 : Nat) ^ 8 = 2 ^ 32 := by decide
  omega
theorem OkT.app {m n : Nat} {x y : Str} (h : OkT m x) (k : OkT n y) : OkT (m + n) (x ++ y) := by
  refine ⟨?_, fun c hc => ?_⟩
  · rw [Str.length_append]
    have := h.len
    have := k.len
    omega
  · have e : (x ++ y).cps.toList = x.cps.toList ++ y.cps.toList := by
      show (x.cps ++ y.cps).toList = _
      rw [Array.toList_append]
    rw [e] at hc
    exact (List.mem_append.mp hc).elim (h.cps c) (k.cps c)
theorem log_sm {n : Nat} {i : Int} (hn : 0 < n) (h : Sm n i) : i.natAbs.log2 < n := PySem.Flt.log2_lt_of hn h
theorem ts_ok {i : Int} (h : Sm 200 i) : OkT 201 (ts i) := (OkT.of (toString i)).mono (int_text_length_le (by decide) (log_sm (by decide) h))
structure Shows (d : PyData) : Prop where
  s : d.showable = true
  n : d.hasDict = false
  p : d.depth ≤ 40
  l : d.shown.length ≤ sizeLine
/-! ### the texts -/
def commas (a b c : Int) : Str := ts a ++ ", " ++ ts b ++ ", " ++ ts c
theorem join3 (x y z : Str) : Txt.join ", " [x, y, z] = x ++ ", " ++ y ++ ", " ++ z := by
  show Builtin.Str.glued ", " [x, y, z] = _
  rw [StrLaws.glued_eq_join]
  show x ++ ", " ++ (y ++ ", " ++ z) = _
  simp only [Str.append_assoc]
def ftext (t b : Int) : Str := if b = 1 then ts t else ts t ++ "/" ++ ts b
def xtext (s l w : Int) : Str := if s = 0 then ftext w l else "root of " ++ commas s l w
def rtext (s l w : Int) : Str := "Exact(" ++ commas s l w ++ ")"
theorem OkT.fits {n : Nat} {x : Str} (h : OkT n x) (l : n ≤ 100000 := by decide) : x.length ≤ sizeLine := by
  have := h.len
  rw [sizeLine_eq]
  omega
end RL

set_option maxHeartbeats 1000000
/-! Further rules: o.f as a target within a tuple; an own binary operator; a static method read off its class; an instance called by keyword; t[::-1] of a tuple; x in a tuple of data. -/
namespace RL
open PySem L2 PySem.Spec PyProof.Rows PySem.W
section
variable {X : Cx}
def gFld (K : PySem.W.Frag) (ta : TE) (f : Str) : TG := fun v σ H Q => ta σ H fun x H1 => ∃ a C dx fs, x = .ref a ∧ H1 a = some (.ins C dx fs) ∧ Cls K C ∧ NoAttr K C f ∧ fs.length < 1000 ∧ Q σ (upd H1 a (.ins C dx (putF f v fs)))
theorem pg_fld {o : Expr} {f : Str} {pos : Pos} {ta : TE} (ho : PE X o ta) (ha : ∀ v, assign (.Attribute o f pos) X.env v = (do
      let ov ← holding [v] (eval o X.env)
      standAt pos.atName
      holding [v, ov] (setAttr ov f v)
      release [v, ov] []) := by intro _; rfl) : PG X (.Attribute o f pos) (gFld X.K ta f) := by
  refine ⟨fun pins s σ H v u Q I r h => ?_⟩
  rw [ha]
  refine wpAny_bind (wpAny_holding (thn (ho.run pins s σ H _ I h) fun ov s1 ⟨x, H1, I1, r1, a, C, dx, fs, ex, ea, c, n, l, q⟩ => ?_))
  subst ex
  obtain rfl : ov = Value.ref a := r1
  refine wpAny_bind (wpAny_standAt (wpAny_bind (wpAny_holding (setattr_ok I1 ea c n l r fun s2 I2 => ?_))))
  exact wpAny_release ⟨σ, _, I2, q⟩
end
/-! ### an own binary operator -/
section
variable {X : Cx} {k : Nat} {ps : List Str} {sp : Sp} {C g : Addr} {fd : FuncData}
def rBinOwn (C : Addr) (sp : Sp) : R2 := fun x y H Q => ∃ a dx fs b dy gs, x = .ref a ∧ H a = some (.ins C dx fs) ∧ y = .ref b ∧ H b = some (.ins C dy gs) ∧ sp [x, y] H Q E0
theorem op_binOwn {op : Operator} (hc : PySem.W.selfFirst X.K C = true) (hs : PySem.W.findIn X.K (.ref C) (PySem.dunder op.info.2) = some (some (.ref g))) (hf : PySem.W.isFn X.K (.ref g) = true) (F : FnOk X.prog X.w X.K X.mg X.base CX0 k g fd ps sp) (hb : Binds X.K fd ps []) (hr : Room k X.A) :
    OpR X (binaryOp op) (rBinOwn C sp) := by
  intro pins s σ H x y v u Q I rx ry h
  obtain ⟨a, dx, fs, b, dy, gs, rfl, ha, rfl, hy, q⟩ := h
  cases (show v = Value.ref a from rx)
  cases (show u = Value.ref b from ry)
  obtain ⟨mA, O, _⟩ := ins_get I.hok ha
  obtain ⟨od, J, _⟩ := O.look
  obtain ⟨mB, O2, _⟩ := ins_get I.hok hy
  obtain ⟨od2, J2, _⟩ := O2.look
  obtain ⟨m, hF⟩ := I.fr
  refine PySem.W.binop_K hF I.ok.mod.kin J J2.type hc hs hf ?_
  have q0 : sp ([.ref a, .ref b] ++ []) H Q E0 := q
  refine wpAny_mono (run_fn (us := [.ref a, .ref b]) (vs := [.ref a, .ref b]) F hr hb .nil pass0 I (.cons rfl (.cons rfl .nil)) q0) (fun w s' z => ?_) fun _ _ z => z
  obtain ⟨z', H', I', rz, qz⟩ := z
  exact SlX.cmpback rz ⟨z', H', I', rz, qz⟩
end
/-! ### C.m(..), m a static method -/
structure SMet (K : PySem.W.Frag) (C : Addr) (mc : Value) (m : Str) (p g : Addr) : Prop where
  at_ : PySem.W.findCls K (.ref C) mc m = some (.get (.builtin "staticmethod.__get__") (.ref p) .none (.ref C))
  rc : ∃ rest, PySem.W.recIn K p "staticmethod" = some (.ref g :: rest)
  kp : PySem.W.keepIn K (.ref g) = true
def tSMeth (C : Addr) (sp : Sp) (ta : TE) (t : TA) : TE := fun σ H Q => ta σ H fun x H1 => x = .ref C ∧ t σ H1 fun vs H2 => sp vs H2 Q E0
section
variable {X : Cx} {k : Nat} {ps : List Str} {C p g : Addr} {mc : Value} {sp : Sp} {fd : FuncData} {o e : Expr} {es : List Expr} {m : Str} {pos apos : Pos} {ta : TE} {t : TA} {pl : Sem Bool}
theorem pe_smeth (he : PE X o ta) (r : ClX.CRead X.K C mc) (c : SMet X.K C mc m p g) (F : FnOk X.prog X.w X.K X.mg X.base CX0 k g fd ps sp) (hb : Binds X.K fd ps []) (hr : Room k X.A) (ha : PA X (e :: es) t)
    (hst : starEach (e :: es) X.env = (false, eval e X.env) :: starEach es X.env := by rfl) (hpl : (backTo pos (starEach es X.env)).any (·.1) = false := by rfl)
    (ht : eval (.Call (.Attribute o m apos) (e :: es) [] pos) X.env = (do
      let ov ← eval o X.env
      standAt apos.atName
      let (f, first) ← holding [ov] (getMethod ov m pl)
      callWith pos f first (backTo pos (starEach (e :: es) X.env)) (backToKw pos (keywordEach [] X.env))) := by rfl) :
    PE X (.Call (.Attribute o m apos) (e :: es) [] pos) (tSMeth C sp ta t) := by
  refine ⟨fun pins s σ H Q I h => ?_⟩
  refine PySem.W.methodCall_KW (pl := pl) (thn (he.run pins s σ H _ I h) fun u s1 ⟨x, H1, I1, rx, ex, q⟩ => ?_) ht
  subst ex
  obtain rfl : u = Value.ref C := rx
  obtain ⟨rest, hp⟩ := c.rc
  refine PySem.W.method_cls I1.kIn r.ga (PySem.W.cls_bind I1.kIn r.rd c.at_ (wpAny_call (PySem.W.sm_get (s := { s1 with toks := s1.toks + 1 }) I1.kIn hp (PySem.W.handed_on rfl ?_))))
  have I2 := I1.tok (s1.toks + 1)
  refine PySem.W.callWith_K (first := []) (h₀ := X.base) I.ok.mod.kin c.kp (thn (ha.run pos pins _ σ H1 _ I2 q) fun us s2 ⟨vs, H2, I3, rv, q2⟩ => ⟨I3.kIn, ?_⟩) hst hpl
  have q0 : sp (vs ++ []) H2 Q E0 := by
    rw [List.append_nil]
    exact q2
  exact run_fn (us := us) F hr hb .nil pass0 I3 rv q0
end
/-! ### an instance called by one keyword -/
section
variable {X : Cx} {k : Nat} {C g : Addr} {sp : Sp} {fd : FuncData} {fe e : Expr} {es : List Expr} {pos kpos : Pos} {p1 kw : Str} {tf : TE} {tk : TA} {t : TA}
def tCallOK (X : Cx) (C : Addr) (sp : Sp) (tf : TE) (tk : TA) : TE := fun σ H Q => tf σ H fun y H1 => ∃ a, y = V.ref a ∧ tk σ H1 fun vs H2 => (∃ dx fs, H2 a = some (.ins C dx fs)) ∧ sp (V.ref a :: vs) H2 Q E0
end
/-! ### t[::-1] -/
section
variable {prog : Program} {w : World} {A : Around} {E : Value → Shared → Prop} {s : Shared}
open HT
end
section
variable {X : Cx}
def tRevT (K : PySem.W.Frag) (te : TE) : TE := fun σ H Q => te σ H fun x H1 => ∃ a xs, x = .ref a ∧ SqT K H1 a xs ∧ ∀ p, H1 p = none → Q (.ref p) (upd H1 p (.tup xs.reverse))
/-! ### x in a tuple of data -/
def rInT (K : PySem.W.Frag) : R2 := fun x y H Q => ∃ d ds, Dp K H x d ∧ Dp K H y (.tuple ds) ∧ SeqAt.shaped d = true ∧ SeqAt.shaped (.tuple ds) = true ∧ Q (.bl (ds.any fun z => PyData.eqv z d)) H
theorem op_inT (hu : X.A.units + 65 < cLine) : OpR X (compareOp .In) (rInT X.K) := by
  intro pins s σ H x y v u Q I rx ry h
  obtain ⟨d, ds, hd, he, sd, se, q⟩ := h
  obtain ⟨as, r1⟩ := Dp.reads I d x v hd rx
  obtain ⟨bs, r2⟩ := Dp.reads I (.tuple ds) y u he ry
  exact SeqAt.in_tuple_reads r2 r1 (SeqAt.canLay_of_shaped se) (SeqAt.canLay_of_shaped sd) (room_in_shaped sd hu) ⟨.bl _, H, I, rfl, q⟩
end
end RL

set_option maxHeartbeats 1000000
/-! for i, x in enumerate(t), t a tuple. -/
namespace RL
open PySem L2 PySem.Spec PyProof.Rows
open AutoSeq1 (wpAny_loadPart')
theorem meets_enumerate_newT (l : Addr) (items : Array Value) (n : Nat) (dct : Option Addr) (sl : Array (Option Value)) :
    Meets (Builtin.«enumerate.__new__» ⟨[.type "enumerate", .ref l], []⟩) (fun _ R s => s.heap.get? l = some { cls := .type "tuple", dict := dct, data := .seq items n, slots := sl } ∧
      R (.ok (.ret (.ref (s.heap.push { cls := .type "tuple_iterator", data := .fields #[.ref l, .int 0 0] }).objs.size)))
        { s with heap := (s.heap.push { cls := .type "tuple_iterator", data := .fields #[.ref l, .int 0 0] }).push { cls := .type "enumerate", data := .fields #[.none, .bool false, .ref s.heap.objs.size, rawInt 0, .none, .none] } }) :=
  .of_wp fun prog w A R s h => by
    obtain ⟨hp, g, d, tk, os⟩ := s; obtain ⟨hl, h⟩ := h
    have hsub := sub_enumerate
    have hL : Heap.IsTuple (Shared.heap ⟨hp, g, d, tk, os⟩) l items := ⟨_, hl, rfl, n, rfl⟩
    wp_walk using wpAny_loadPart' hl
    refine wpAny_stack_any fun st => wpAny_pure ?_
    split
    · rename_i c _ _ _ _ _
      cases (c == Value.type "enumerate")
      · wp_walk using wpAny_loadPart' hl, wpAny_pyIter_tuple hL
        exact ⟨_, rfl, h⟩
      · wp_walk using wpAny_loadPart' hl, wpAny_pyIter_tuple hL
        exact ⟨_, rfl, h⟩
    · wp_walk using wpAny_loadPart' hl, wpAny_pyIter_tuple hL
      exact ⟨_, rfl, h⟩
section
variable {prog : Program} {w : World} {A : Around} {E : Value → Shared → Prop} {s : Shared}
theorem call_enumerate_tuple {l : Addr} {items : Array Value} {Q : Value → Shared → Prop} (hL : s.heap.IsTuple l items)
    (h : ∀ h', IsEnum h' (s.heap.objs.size + 1) s.heap.objs.size 0 .none → h'.IsTupleIter s.heap.objs.size l 0 → h'.objs.size = s.heap.objs.size + 2 →
      (∀ b o, s.heap.get? b = some o → h'.get? b = some o) → Q (.ref (s.heap.objs.size + 1)) { s with heap := h' }) :
    wpAny (model prog w) A (call (.type "enumerate") [.ref l]) Q E s := by
  obtain ⟨⟨c, dct, dt, sl⟩, hl, hc, n, hd⟩ := hL
  replace hc : c = .type "tuple" := hc
  replace hd : dt = .seq items n := hd
  subst hc hd
  refine callType_new F.called_enumerate (by decide) (F.typeCall_enumerate_1 _) (F.newCall_enumerate_1 _) (fun obj => F.args_object_init_2 obj _) F.entry_enumerate_new
    (meets_enumerate_newT l items n dct sl) ⟨hl, ?_⟩
  have hz : (s.heap.push { cls := .type "tuple_iterator", data := .fields #[.ref l, .int 0 0] }).objs.size = s.heap.objs.size + 1 := Heap.size_push ..
  show _ ∧ _
  rw [hz]
  have he : IsEnum ((s.heap.push { cls := .type "tuple_iterator", data := .fields #[.ref l, .int 0 0] }).push
      { cls := .type "enumerate", data := .fields #[.none, .bool false, .ref s.heap.objs.size, rawInt 0, .none, .none] }) (s.heap.objs.size + 1) s.heap.objs.size 0 .none := by
    have := Heap.get?_push_size (s.heap.push { cls := .type "tuple_iterator", data := .fields #[.ref l, .int 0 0] })
      (o := { cls := .type "enumerate", data := .fields #[.none, .bool false, .ref s.heap.objs.size, rawInt 0, .none, .none] }) rfl
    rw [hz] at this; exact this
  refine ⟨⟨_, he, rfl⟩, h _ he ⟨_, Heap.get?_push_of_some _ (Heap.get?_push_size _ rfl), rfl, rfl⟩ (by rw [Heap.size_push, hz]) fun b o x => Heap.get?_push_of_some _ (Heap.get?_push_of_some _ x)⟩
end
def IteT (K : PySem.W.Frag) (a : Addr) : It :=
  ⟨fun i H => ∃ (xs : List V) (x : V), SqT K H a xs ∧ xs[i]? = some x, fun i H v H' => ∃ T x, v = .ref T ∧ H T = none ∧ H' = upd H T (.tup [.int (i : Nat), x]) ∧ ∀ xs, SqT K H a xs → xs[i]? = some x, fun i H => ∃ xs : List V, SqT K H a xs ∧ xs.length = i⟩
theorem turn_enumT {P : Program} {w : World} {K : PySem.W.Frag} {elts : List Expr} {kk : Nat} {tpos : Pos} (a e it : Addr) :
    Turn P w K (.Tuple elts kk tpos) (IteT K a) [e, it] e (fun i h => (∃ old, IsEnum h e it ((i : Nat) : Int) old) ∧ h.IsTupleIter it a i ∧ e ≠ it ∧ a ≠ it ∧ a ≠ e) where
  mem := by simp
  obj := fun i h st b hb => by
    obtain ⟨⟨old, he⟩, ⟨o, ho, hc, hd⟩, _⟩ := st
    have e' : b = e ∨ b = it := by simpa using hb
    rcases e' with z | z
    · rw [z]; exact ⟨_, he, fun v q => nomatch q⟩
    · rw [z]; exact ⟨o, ho, fun v q => by rw [hd] at q; cases q⟩
  keep := fun i h h' st k => let ⟨⟨old, he⟩, hi, hne⟩ := st; ⟨⟨old, k e (by simp) _ he⟩, hi.at fun o q => k it (by simp) o q, hne⟩
  item := by
    intro X hP hw hK hc i pins s σ H E I hf st hg
    subst hP hw hK
    obtain ⟨⟨old, he⟩, hit, hne, hai, hae⟩ := st
    obtain ⟨xs, x, hq, hx⟩ := hg
    obtain ⟨its, rv, p, hz⟩ := I.tuple hq
    obtain ⟨u, hu, ru⟩ := rv.get hx
    have hel : e < s.heap.objs.size := Heap.lt_size he
    have hil : it < s.heap.objs.size := by obtain ⟨_, q, _⟩ := hit; exact Heap.lt_size q
    have hi : i < its.toArray.size := by
      have := (List.getElem?_eq_some_iff.mp hu).1
      simpa using this
    refine wpAny_pyNext_enum_itemD (Draws.tuple (A := X.A.in1) (I.ok.hd hc) it a hai its.toArray) he ⟨hit, p⟩ hi hne (by simp [hne, Ne.symm hae]) fun x' h' tk hPx ho st' hT hsz hk => ?_
    have ex : x' = u := by
      have h1 : its.toArray[i]? = some u := by simpa using hu
      rw [h1] at hPx
      exact (Option.some.inj hPx).symm
    subst ex
    refine ⟨_, rfl, wpAny_letOwnedTupleGo_enum (s := { s with heap := h', toks := tk + 1 }) ho fun h'' he' sb => ?_⟩
    have hT2 : h''.get? s.heap.objs.size = some { cls := .type "tuple", data := .seq #[.int i tk, x'] } := (sb.2 _ (Nat.ne_of_gt hel)).trans hT
    have new : ObjOk X.prog X.w (upd H s.heap.objs.size (.tup [.int (i : Nat), x])) h'' s.heap.objs.size (.tup [.int (i : Nat), x]) :=
      ⟨by show 2 ≤ sizeLine; decide, [.int i tk, x'], .cons ⟨_, rfl⟩ (.cons ru .nil), ⟨_, hT2, rfl, _, rfl⟩⟩
    have I1 : Inv X pins σ (upd H s.heap.objs.size (.tup [.int (i : Nat), x])) { s with heap := h'', toks := tk + 1 } :=
      I.turnedNew (ch := [e, it]) (fun b ob hb q => (sb.2 b (fun z => hb (by simp [z]))).trans (hk b ob (fun z => hb (by simp [z])) (fun z => hb (by simp [z])) q)) hf (Nat.le_refl _) new
    refine ⟨.ref s.heap.objs.size, _, I1, rfl, ⟨_, x, rfl, I.hok.fresh (Nat.le_refl _), rfl, fun ys hy => by rw [I.tuple_inj hy hq]; exact hx⟩, ⟨⟨x', ?_⟩, st'.1.at fun o q => (sb.2 it (Ne.symm hne)).trans q, hne, hai, hae⟩, fun b hb => ?_⟩
    · have e1 : ((i + 1 : Nat) : Int) = (i : Int) + 1 := by omega
      rw [e1]; exact he'
    · have hb' : b < s.heap.objs.size := by
        have e' : b = e ∨ b = it := by simpa using hb
        rcases e' with z | z
        · rw [z]; exact hel
        · rw [z]; exact hil
      rw [upd_ne (Nat.ne_of_lt hb')]
      exact (hf b hb).1
  done := by
    intro X hP hw hK hc i pins s σ H E I hf st hg
    subst hP hw hK
    obtain ⟨⟨old, he⟩, hit, hne, hai, hae⟩ := st
    obtain ⟨xs, hq, hx⟩ := hg
    obtain ⟨its, rv, p, hz⟩ := I.tuple hq
    obtain ⟨f0, f1, f2, f3, f4, f5⟩ := hf it (by simp)
    have hl := rv.length
    have en : its.toArray.size = i := by simp; omega
    have hit' : s.heap.IsTupleIter it a its.toArray.size := by rw [en]; exact hit
    exact wpAny_pyNext_enum_endD (Draws.tuple (A := X.A.in1) (I.ok.hd hc) it a hai its.toArray) he ⟨hit', p⟩ fun h' eb => ⟨rfl, I.turned (t' := s.toks) (fun b o hb q => eb b o hb q) f0 f1 f3 f4 f5⟩
  self := fun A i s Q E st h => let ⟨⟨_, he⟩, _⟩ := st; wpAny_pyIter_enum he h
def iEnumT (K : PySem.W.Frag) (ta : TA) : TI := fun σ H R => ta σ H fun vs H1 => ∃ a xs, vs = [.ref a] ∧ SqT K H1 a xs ∧ R (IteT K a) H1
theorem pi_enumT {X : Cx} {e : Expr} {ta : TA} {p pos tpos : Pos} {elts : List Expr} {kk : Nat} (hg : Gl X "enumerate") (hm : X.mg "enumerate" = none) (ha : PA X [e] ta) (hs : starEach [e] X.env = [(false, eval e X.env)] := by rfl) :
    PI X (.Tuple elts kk tpos) (.Call (.Name "enumerate" p) [e] [] pos) (iEnumT X.K ta) := by
  refine ⟨fun pins s σ H R I h => ?_⟩
  refine Call_ (ld_blt I hg hm boot_enumerate (PyProof.Rows.callWith_type1 (thn (ha.run pos pins s σ H _ I h) fun us s1 ⟨vs, H1, I1, r1, q1⟩ => ?_) hs rfl))
  obtain ⟨a, xs, ex, hq, q⟩ := q1
  subst ex
  cases r1 with
  | cons r rr =>
    cases rr
    cases r
    obtain ⟨its, rv, p', hz⟩ := I1.tuple hq
    have hal : a < s1.heap.objs.size := by obtain ⟨o, ho, _⟩ := id p'; exact Heap.lt_size ho
    refine call_enumerate_tuple p' fun h' he hit hsz hk => wpAny_pyIter_enum he ?_
    have I2 : Inv X pins σ H1 { s1 with heap := h' } := I1.kept (t' := s1.toks) hk
    refine ⟨s1.heap.objs.size + 1, [s1.heap.objs.size + 1, s1.heap.objs.size], _, _, H1, rfl, I2, turn_enumT a (s1.heap.objs.size + 1) s1.heap.objs.size, ⟨⟨.none, he⟩, hit, Nat.succ_ne_self _, Nat.ne_of_lt hal, Nat.ne_of_lt (Nat.lt_succ_of_lt hal)⟩, fun b hb => ?_, q⟩
    have e' : b = s1.heap.objs.size + 1 ∨ b = s1.heap.objs.size := by simpa using hb
    have hle : s1.heap.objs.size ≤ b := by
      rcases e' with z | z
      · rw [z]; exact Nat.le_add_right _ _
      · rw [z]; exact Nat.le_refl _
    exact I1.fpOk hle (I1.hok.fresh hle)
theorem for_enumT {K : PySem.W.Frag} {a : Addr} {xs : List V} {g : TG} {tb : TS} {D : Ends} {σ : L2.St} {H : Hp} (Pv : Nat → L2.St → Hp → Prop) (h0 : Pv 0 σ H) (hl : ∀ i σ H, i ≤ xs.length → Pv i σ H → SqT K H a xs)
    (hs : ∀ i x σ H T, xs[i]? = some x → Pv i σ H → H T = none → g (.ref T) σ (upd H T (.tup [.int (i : Nat), x])) fun σ2 H2 => tb { D with nx := Pv (i + 1), ct := Pv (i + 1), bk := D.nx } σ2 H2) (hd : ∀ σ H, Pv xs.length σ H → D.nx σ H) :
    ∃ W : Nat → Nat → L2.St → Hp → Prop, (∃ m, W 0 m σ H) ∧ ∀ i m σ H, W i m σ H →
      ((IteT K a).stop i H ∧ D.nx σ H) ∨ ((IteT K a).go i H ∧ ∃ N : L2.St → Hp → Prop, (∀ σ' H', N σ' H' → ∃ m', m' < m ∧ W (i + 1) m' σ' H') ∧ ∀ x H', (IteT K a).yld i H x H' → g x σ H' fun σ2 H2 => tb { D with nx := N, ct := N, bk := D.nx } σ2 H2) := by
  refine ⟨fun i m σ H => m = xs.length - i ∧ i ≤ xs.length ∧ Pv i σ H, ⟨xs.length, by simp, Nat.zero_le _, h0⟩, ?_⟩
  rintro i m σ H ⟨rfl, hi, p⟩
  have q := hl i σ H hi p
  by_cases hlt : i < xs.length
  · refine .inr ⟨⟨xs, xs[i], q, by simp [hlt]⟩, Pv (i + 1), fun σ' H' p' => ⟨xs.length - (i + 1), by omega, rfl, hlt, p'⟩, fun x H' y => ?_⟩
    obtain ⟨T, x', rfl, nT, rfl, hx⟩ := y
    exact hs i x' σ H T (hx xs q) p nT
  · have : i = xs.length := by omega
    subst this
    exact .inl ⟨⟨xs, q, rfl⟩, hd σ H p⟩
theorem fnR_mk {P : Program} {w : World} {K : PySem.W.Frag} {mg : Str → Option Value} {base : Heap} {k : Nat} {g : Addr} {fd : FuncData} {ps : List Str} {sp : Sp} (F : FnOk P w K mg base CX0 k g fd ps sp) (hb : Binds K fd ps []) : FnR P w K mg base CX0 k g sp := by
  intro A outer s H us vs Q E hr e0 r h
  have hl : (us ++ []).length = ps.length := by
    rw [List.append_nil, ← r.length]
    exact F.len _ _ _ _ h
  have KX : K.In s.heap := e0.mod.kin.keeps fun b o e => (e0.bs b o e).1
  have hbb := hb s us KX hl
  rw [List.append_nil] at hbb
  exact F.run A outer s H ⟨us, []⟩ us vs Q E hr e0 hbb r h
end RL

namespace RL
open PySem L2
def top (i : Nat) : Stmt := PySem.Challenge.pw_rungladders_k43_whole_order_of_patterns.main.body.getD i (.Pass ⟨0, 0, 0, 0⟩)
/-! ### a def as its callers see it -/
structure Df (P : Program) (w : World) (K : PySem.W.Frag) (mg : Str → Option Value) (base : Heap) (k : Nat) (x : Str) (ps : List Str) (sp : Sp) : Prop where
  ex : ∃ (f : Addr) (fd : FuncData), FnOk P w K mg base CX0 k f fd ps sp ∧ mg x = some (.ref f) ∧ PySem.W.keepIn K (.ref f) = true ∧ Binds K fd ps []
section
variable {X : Cx} {k : Nat} {ps : List Str} {sp : Sp} {x : Str} {p pos : Pos} {e : Expr} {es : List Expr} {t : TA}
theorem pe_df (D : Df X.prog X.w X.K X.mg X.base k x ps sp) (hr : Room k X.A) (hg : Gl X x)
    (ha : PA X (e :: es) t) (hdb : (x == ("__debug__" : Str)) = false := by decide) (he : starEach (e :: es) X.env = (false, eval e X.env) :: starEach es X.env := by rfl) (hpl : (backTo pos (starEach es X.env)).any (·.1) = false := by rfl) :
    PE X (.Call (.Name x p) (e :: es) [] pos) (tCall sp [] E0 t) := by
  obtain ⟨f, fd, G, hm, hk, hb⟩ := D.ex
  exact pe_call G hr hg hm hk hb .nil pass0 ha hdb he hpl
end
theorem pe_fldK {X : Cx} {K : PySem.W.Frag} {e : Expr} {f : Str} {pos : Pos} {ta : TE} (he : PE X e ta) (hK : X.K = K := by rfl) (hb : attributeBase e f X.env (eval e X.env) = eval e X.env := by rfl) : PE X (.Attribute e f pos) (tFld K ta f) := by
  subst hK
  exact pe_fld he hb
structure Txt (K : PySem.W.Frag) (mg : Str → Option Value) : Prop where
  len : mg "len" = none
  abs : mg "abs" = none
  int_ : mg "int" = none
  bool_ : mg "bool" = none
  tuple_ : mg "tuple" = none
  isinstance : mg "isinstance" = none
  divmod : mg "divmod" = none
  max : mg "max" = none
  min : mg "min" = none
  range : mg "range" = none
  all : mg "all" = none
  repr : mg "repr" = none
  str_ : mg "str" = none
  enumerate : mg "enumerate" = none
/-! ### heaps -/
def But (c : Addr) (H H' : Hp) : Prop := ∀ b o, b ≠ c → H b = some o → H' b = some o
theorem But.refl (c : Addr) (H : Hp) : But c H H := fun _ _ _ h => h
theorem But.trans {c : Addr} {H H1 H2 : Hp} (a : But c H H1) (b : But c H1 H2) : But c H H2 := fun x o n h => b x o n (a x o n h)
theorem But.of {c : Addr} {H H' : Hp} (h : Same H H') : But c H H' := fun x o _ e => h x o e
theorem same_upd {H : Hp} {p : Addr} {o : HO} (h : H p = none) : Same H (upd H p o) := fun b x e => by
  rw [upd_ne (ne_of_none e h)]
  exact e
theorem But.upd {c : Addr} {H : Hp} {o : HO} : But c H (upd H c o) := fun b x n e => by
  rw [upd_ne n]
  exact e
theorem But.free {c : Addr} {H H' : Hp} (e : But c H H') {l : Addr} (n : l ≠ c) (h : H' l = none) : H l = none := by
  cases q : H l with
  | none => rfl
  | some o =>
    rw [e l o n q] at h
    cases h
def CupAt (c : Addr) (H : Hp) : Prop := ∃ x y : Int, H c = some (.lst [.int x, .int y]) ∧ 0 ≤ x ∧ x < 2147483629 ∧ 0 ≤ y
theorem CupAt.same {c : Addr} {H H' : Hp} (h : CupAt c H) (s : Same H H') : CupAt c H' := by
  obtain ⟨x, y, a, b⟩ := h
  exact ⟨x, y, s _ _ a, b⟩
theorem CupAt.ne {c b : Addr} {H : Hp} (h : CupAt c H) (n : H b = none) : c ≠ b := by
  obtain ⟨x, y, a, _⟩ := h
  exact ne_of_none a n
/-! ### promises -/
def spCup (K : PySem.W.Frag) : Sp := fun vs H Q _ => ∃ (a : Addr) (ns : List Int) (i : Nat), vs = [.ref a, .int (i : Int)] ∧ SqL K H a (ns.map V.int) ∧ i ≤ 100 ∧ ns.length ≤ 63 ∧
  ∀ H' c, Same H H' → H c = none → CupAt c H' → Q (.ref c) H'
def spSip : Sp := fun vs H Q _ => ∃ (c : Addr) (m : Int), vs = [.ref c, .int m] ∧ CupAt c H ∧ 0 < m ∧ Sm 200 m ∧
  ∀ H' r, But c H H' → CupAt c H' → 0 ≤ r → r < m → Q (.int r) H'
def spPick : Sp := fun vs H Q _ => ∃ (c l : Addr) (xs : List V), vs = [.ref c, .ref l] ∧ CupAt c H ∧ c ≠ l ∧ H l = some (.lst xs) ∧ 0 < xs.length ∧ xs.length ≤ 100 ∧
  ∀ H' v, But c H H' → CupAt c H' → v ∈ xs → Q v H'
def spPair : Sp := fun vs H Q _ => ∃ (t b : Int), vs = [.int t, .int b] ∧ Pos2 (t, b) ∧ Sm 4000 t ∧ Sm 4000 b ∧
  ∀ H' p, Same H H' → H p = none → H' p = some (.tup [.int (low (t, b)).1, .int (low (t, b)).2]) → Q (.ref p) H'
section
variable {P : Program} {w : World} {K : PySem.W.Frag} {mg : Str → Option Value} {base : Heap}
abbrev s_law_sip : Stmt := top 70
theorem sc_law_sip : FnScope ["_law_cup_here", "_law_many", "_law_part"] ["_law_cup_here", "_law_many"] (defScope s_law_sip) := ⟨rfl, rfl, rfl, by decide +kernel, rfl, by decide +kernel, by decide +kernel⟩

theorem ok_sip {f : Addr} {fd : FuncData} (F : Fun K "_law_sip" "_law_sip" s_law_sip f fd) (T : Txt K mg) : FnOk P w K mg base CX0 1 f fd ["_law_cup_here", "_law_many"] spSip := by
  refine F.ok sc_law_sip (fun vs H Q E h => ?_) (fun cdv A outer s H vs Q E hr h => ?_)
  · obtain ⟨c, m, rfl, _⟩ := h
    rfl
  · obtain ⟨c, m, rfl, ⟨x, y, hc, x0, x1, y0⟩, m0, ms, k⟩ := h
    refine ⟨_, (pss_cons (ps_asg (pe_op op_mod (pe_callTy call_int1 (by rfl) T.int_ (by decide +kernel) (pa_cons (pe_op op_add (pe_op op_mul (pe_ix ix_list (pv 0) pe_int (fun _ _ => rfl)) pe_int) pe_int) pa_nil)) pe_int) (pg_sub (pv 0) pe_int set_list))
      (pss_cons (ps_if (pt_cmpR op_gt (pe_ix ix_list (pv 0) pe_int (fun _ _ => rfl)) pe_int (nomark _)) (pss_cons (ps_asg (pe_callB call_divmodW (by rfl) T.divmod (by decide +kernel) (pa_cons (pe_ix ix_list (pv 0) pe_int (fun _ _ => rfl)) (pa_cons (pv 1) pa_nil))) (pg_tup rfl (pgs_cons (pg_sub (pv 0) pe_int set_list) (pgs_cons (pg_name (i := 2) sc_law_sip.nd rfl (.inl rfl)) pgs_nil))))
      (pss_one (ps_ret (pv 2)))) pss_nil)
      (pss_one (ps_ret (pe_op op_mod (pe_callTy call_int1 (by rfl) T.int_ (by decide +kernel) (pa_cons (pe_op op_fdivW (pe_ix ix_list (pv 0) pe_int (fun _ _ => rfl)) pe_int) pa_nil)) (pv 1)))))), ?_⟩
    -- cup[0] = ..
    refine ⟨_, rfl, c, _, _, _, rfl, rfl, SqL.of hc, atI_nat (j := 0) rfl, _, _, rfl, rfl, .inr ⟨by decide, by decide⟩, _, _, rfl, rfl, .inl ⟨_, rfl, _, _, rfl, rfl, (by decide : (0 : Int) < 2147483629), _, rfl, c, _, _, _, rfl, rfl, hc, rfl, ?_⟩⟩
    have z0 : 0 ≤ (x * 48271 + 11) % 2147483629 := Int.emod_nonneg _ (by decide)
    have z1 : (x * 48271 + 11) % 2147483629 < 2147483629 := Int.emod_lt_of_pos _ (by decide)
    have hc1 : (upd H c (HO.lst ([V.int x, V.int y].set 0 (V.int ((x * 48271 + 11) % 2147483629))))) c = some (.lst [.int ((x * 48271 + 11) % 2147483629), .int y]) := upd_same
    have b1 : But c H (upd H c (HO.lst ([V.int x, V.int y].set 0 (V.int ((x * 48271 + 11) % 2147483629))))) := But.upd
    -- if cup[1] > 0
    refine ⟨_, rfl, c, _, _, _, rfl, rfl, SqL.of hc1, atI_nat (j := 1) rfl, _, _, rfl, rfl, _, rfl, ite2 (fun e => ?_) (fun e => ?_)⟩
    · have e0 : 0 < y := of_decide_eq_true e
      refine ⟨_, rfl, c, _, _, _, rfl, rfl, SqL.of hc1, atI_nat (j := 1) rfl, _, rfl, _, _, rfl, ⟨m0, PyProof.noPylong_of_log2 (PySem.Flt.log2_lt_of (by decide) (Nat.lt_of_lt_of_le ms (Nat.pow_le_pow_right (by decide) (by decide : 200 ≤ 9000))))⟩, fun p hp => ?_⟩
      have ncp : c ≠ p := ne_of_none hc1 hp
      have hc2 : (upd (upd H c (HO.lst ([V.int x, V.int y].set 0 (V.int ((x * 48271 + 11) % 2147483629))))) p (HO.tup [V.int (y / m), V.int (y % m)])) c = some (.lst [.int ((x * 48271 + 11) % 2147483629), .int y]) := by
        rw [upd_ne ncp]
        exact hc1
      refine ⟨p, _, rfl, SqT.of upd_same, rfl, _, _, rfl, _, rfl, c, _, _, _, rfl, rfl, hc2, rfl, _, _, rfl, rfl, _, rfl, ?_⟩
      refine k _ _ ?_ ⟨_, y / m, upd_same, z0, z1, Int.ediv_nonneg y0 (by omega)⟩ (Int.emod_nonneg _ (by omega)) (Int.emod_lt_of_pos _ m0)
      exact (b1.trans (But.of (same_upd hp))).trans But.upd
    · refine ⟨_, rfl, c, _, _, _, rfl, rfl, SqL.of hc1, atI_nat (j := 0) rfl, _, _, rfl, rfl, ⟨by decide, by decide⟩, .inl ⟨_, rfl, _, rfl, _, _, rfl, rfl, m0, ?_⟩⟩
      exact k _ _ b1 ⟨_, y, hc1, z0, z1, y0⟩ (Int.emod_nonneg _ (by omega)) (Int.emod_lt_of_pos _ m0)
abbrev s_law_pick : Stmt := top 71
theorem sc_law_pick : FnScope ["_law_cup_here", "_law_things"] ["_law_cup_here", "_law_things"] (defScope s_law_pick) := ⟨rfl, rfl, rfl, by decide +kernel, rfl, by decide +kernel, by decide +kernel⟩

theorem ok_pick {f : Addr} {fd : FuncData} (F : Fun K "_law_pick" "_law_pick" s_law_pick f fd) (T : Txt K mg) (D_law_sip : Df P w K mg base 1 "_law_sip" ["_law_cup_here", "_law_many"] spSip) : FnOk P w K mg base CX0 2 f fd ["_law_cup_here", "_law_things"] spPick := by
  refine F.ok sc_law_pick (fun vs H Q E h => ?_) (fun cdv A outer s H vs Q E hr h => ?_)
  · obtain ⟨c, l, xs, rfl, _⟩ := h
    rfl
  · obtain ⟨c, l, xs, rfl, hc, ncl, hl, l0, l1, k⟩ := h
    refine ⟨_, (pss_one (ps_ret (pe_ix ix_list (pv 1) (pe_df D_law_sip (hr.mono (by decide)) (by rfl) (pa_cons (pv 0) (pa_cons (pe_callB call_len_seq (by rfl) T.len (by decide +kernel) (pa_cons (pv 1) pa_nil)) pa_nil))) (fun _ _ => rfl)))), ?_⟩
    refine ⟨_, rfl, _, rfl, _, rfl, l, _, rfl, .inl (SqL.of hl), c, _, rfl, hc, (by omega), ?_, fun H' r b hc' r0 r1 => ?_⟩
    · unfold Sm
      have : (2 : Nat) ^ 7 ≤ 2 ^ 200 := Nat.pow_le_pow_right (by decide) (by decide)
      have : (2 : Nat) ^ 7 = 128 := by decide
      omega
    · obtain ⟨n, rfl⟩ := Int.eq_ofNat_of_zero_le r0
      have hn : n < xs.length := by omega
      refine ⟨l, xs, _, _, rfl, rfl, SqL.of (b _ _ ncl.symm hl), atI_nat (List.getElem?_eq_getElem hn), ?_⟩
      exact k _ _ b hc' (List.getElem_mem hn)
end
end RL

namespace RL
open PySem L2
section
variable {P : Program} {w : World} {K : PySem.W.Frag} {mg : Str → Option Value} {base : Heap}
theorem cutV2 (xs : List V) : cutV xs none (some 2) = xs.take 2 := by
  unfold cutV
  rw [HT.sIx_none, show HT.sIx xs.length xs.length (some 2) = min 2 xs.length from HT.sIx_nat xs.length xs.length 2]
  rw [Nat.sub_zero, List.drop_zero]
  rcases Nat.le_total 2 xs.length with h | h
  · rw [Nat.min_eq_left h]
  · rw [Nat.min_eq_right h, List.take_length, List.take_of_length_le h]
abbrev s_law_cup : Stmt := top 69
theorem sc_law_cup : FnScope ["_law_script", "_law_spot", "_law_cell", "_law_one"] ["_law_script", "_law_spot"] (defScope s_law_cup) := ⟨rfl, rfl, rfl, by decide +kernel, rfl, by decide +kernel, by decide +kernel⟩

theorem ok_cup {f : Addr} {fd : FuncData} (F : Fun K "_law_cup" "_law_cup" s_law_cup f fd) (T : Txt K mg) : FnOk P w K mg base CX0 1 f fd ["_law_script", "_law_spot"] (spCup K) := by
  refine F.ok sc_law_cup (fun vs H Q E h => ?_) (fun cdv A outer s H vs Q E hr h => ?_)
  · obtain ⟨a, ns, i, rfl, _⟩ := h
    rfl
  · obtain ⟨a, ns, i, rfl, hS, hi, hn, k⟩ := h
    refine ⟨_, (pss_cons (ps_set (i := 2) sc_law_cup.nd rfl (.inl rfl) (pe_ifExp (pt_cmpR op_lt (pv 1) (pe_callB call_len_seq (by rfl) T.len (by decide +kernel) (pa_cons (pv 0) pa_nil)) (nomark _)) (pe_ix ix_list (pv 0) (pv 1) (fun _ _ => rfl)) (pe_op op_add (pe_op op_mul pe_int (pv 1)) pe_int)))
      (pss_cons (ps_for PassesOwn.never rfl (pi_list (pe_ifExp (pt_cmpR op_ge (pv 1) (pe_callB call_len_seq (by rfl) T.len (by decide +kernel) (pa_cons (pv 0) pa_nil)) (nomark _)) (pe_slice sl_list (pv 0) po_none (po_some pe_int)) (pe_lst pa_nil))) (pg_name (i := 3) sc_law_cup.nd rfl (.inl rfl)) (pss_one (ps_set (i := 2) sc_law_cup.nd rfl (.inl rfl) (pe_op op_mod (pe_callTy call_int1 (by rfl) T.int_ (by decide +kernel) (pa_cons (pe_op op_add (pe_op op_mul (pv 2) pe_int) (pv 3)) pa_nil)) pe_int))))
      (pss_one (ps_ret (pe_lst (pa_cons (pe_op op_mod (pe_callTy call_int1 (by rfl) T.int_ (by decide +kernel) (pa_cons (pe_op op_add (pe_op op_add (pe_op op_mul (pv 2) pe_int) (pe_op op_mul pe_int (pv 1))) pe_int) pa_nil)) pe_int) (pa_cons (pe_ifExp (PW.pt (pw_or (pt_cmpR op_lt (pv 2) pe_int (nomark _)) (pw_or1 (pt_cmpR op_ge (pv 2) (pe_op op_pow pe_int pe_int) (nomark _))))) (pe_callB call_abs (by rfl) T.abs (by decide +kernel) (pa_cons (pv 2) pa_nil)) pe_int) pa_nil))))))), ?_⟩
    have hlen : (ns.map V.int).length = ns.length := List.length_map ..
    have isI : ∀ (xs : List Int) (j : Nat) (y : V), (xs.map V.int)[j]? = some y → ∃ u, y = V.int u := fun xs j y hj => by
      rw [List.getElem?_map] at hj
      cases q : xs[j]? with
      | none =>
        rw [q] at hj
        cases hj
      | some u =>
        rw [q] at hj
        exact ⟨u, (Option.some.inj hj).symm⟩
    refine ⟨_, rfl, _, rfl, a, _, rfl, .inl hS, _, _, rfl, rfl, _, rfl, ite2 (fun e => ?_) (fun e => ?_)⟩
    · have e0 : (i : Int) < (ns.map V.int).length := of_decide_eq_true e
      have hin : i < ns.length := by omega
      refine ⟨_, rfl, _, rfl, a, _, _, _, rfl, rfl, hS, atI_nat (v := V.int ns[i]) (by rw [List.getElem?_map, List.getElem?_eq_getElem hin]; rfl), ?_⟩
      refine ⟨_, rfl, _, rfl, a, _, rfl, .inl hS, _, _, rfl, rfl, _, rfl, ite2 (fun e2 => absurd (of_decide_eq_true e2) (by omega)) (fun e2 => ?_)⟩
      refine ⟨Nat.zero_le _, fun l hl0 => ?_⟩
      have sm : Same H (upd H l (.lst [])) := same_upd hl0
      have hl : SqL K (upd H l (.lst [])) l (([] : List Int).map V.int) := SqL.of upd_same
      refine ⟨l, rfl, ⟨_, hl⟩, for_list (K := K) (a := l) (xs := ([] : List Int).map V.int) (fun j σ H' => ∃ (c2 : Int) (v3 : Option V), σ = [some (.ref a), some (.int i), some (.int c2), v3] ∧ H' = upd H l (.lst [])) ⟨ns[i], none, rfl, rfl⟩ (fun _ _ _ _ h => by obtain ⟨_, _, _, rfl⟩ := h; exact hl) ?_ ?_⟩
      · rintro j y σ H' hj ⟨c2, v3, rfl, rfl⟩
        obtain ⟨u, rfl⟩ := isI _ _ _ hj
        refine ⟨_, rfl, _, _, rfl, rfl, .inr ⟨by decide, by decide⟩, _, rfl, _, _, rfl, rfl, .inl ⟨_, rfl, _, _, rfl, rfl, (by decide : (0 : Int) < 1000000007), ?_⟩⟩
        exact ⟨_, _, rfl, rfl⟩
      · rintro σ H' ⟨c2, v3, rfl, rfl⟩
        refine ⟨_, rfl, _, _, rfl, rfl, .inr ⟨by decide, by decide⟩, _, rfl, _, _, rfl, rfl, .inl ⟨by decide, by decide⟩, _, _, rfl, rfl, _, _, rfl, rfl, .inl ⟨_, rfl, _, _, rfl, rfl, (by decide : (0 : Int) < 2147483629), ?_⟩⟩
        have z0 : 0 ≤ (c2 * 4099 + 271 * (i : Int) + 17) % 2147483629 := Int.emod_nonneg _ (by decide)
        have z1 : (c2 * 4099 + 271 * (i : Int) + 17) % 2147483629 < 2147483629 := Int.emod_lt_of_pos _ (by decide)
        refine ⟨_, rfl, _, _, rfl, rfl, _, rfl, ite2 (fun e3 => ?_) (fun e3 => ?_)⟩
        · refine iteT ⟨_, rfl, _, rfl, (by show 2 ≤ sizeLine; decide), fun p hp => ?_⟩
          refine k _ p (sm.trans (same_upd hp)) (sm.free hp) ⟨_, _, upd_same, z0, z1, ?_⟩
          split <;> omega
        · refine ⟨_, rfl, _, _, rfl, rfl, ⟨by decide, by decide, by decide⟩, _, _, rfl, rfl, _, rfl, ite2 (fun e4 => ?_) (fun e4 => ?_)⟩
          · refine ⟨_, rfl, _, rfl, (by show 2 ≤ sizeLine; decide), fun p hp => ?_⟩
            refine k _ p (sm.trans (same_upd hp)) (sm.free hp) ⟨_, _, upd_same, z0, z1, ?_⟩
            split <;> omega
          · refine ⟨(by show 2 ≤ sizeLine; decide), fun p hp => ?_⟩
            exact k _ p (sm.trans (same_upd hp)) (sm.free hp) ⟨_, _, upd_same, z0, z1, by decide⟩
    · have e0 : ¬ (i : Int) < (ns.map V.int).length := fun z => e (decide_eq_true z)
      refine ⟨_, rfl, _, _, rfl, rfl, .inl ⟨by decide, by decide⟩, _, _, rfl, rfl, ?_⟩
      refine ⟨_, rfl, _, rfl, a, _, rfl, .inl hS, _, _, rfl, rfl, _, rfl, ite2 (fun e2 => ?_) (fun e2 => absurd (decide_eq_true (show ((ns.map V.int).length : Int) ≤ (i : Int) by omega)) e2)⟩
      refine ⟨_, rfl, 2, rfl, a, _, rfl, hS, fun l hl0 => ?_⟩
      have sm := same_upd (o := .lst (cutV (ns.map V.int) none (some 2))) hl0
      have hl : SqL K (upd H l (.lst (cutV (ns.map V.int) none (some 2)))) l ((ns.take 2).map V.int) := by
        refine SqL.of ?_
        rw [upd_same, cutV2, List.map_take]
      refine ⟨l, rfl, ⟨_, hl⟩, for_list (K := K) (a := l) (xs := (ns.take 2).map V.int) (fun j σ H' => ∃ (c2 : Int) (v3 : Option V), σ = [some (.ref a), some (.int i), some (.int c2), v3] ∧ H' = upd H l (.lst (cutV (ns.map V.int) none (some 2)))) ⟨_, none, rfl, rfl⟩ (fun _ _ _ _ h => by obtain ⟨_, _, _, rfl⟩ := h; exact hl) ?_ ?_⟩
      · rintro j y σ H' hj ⟨c2, v3, rfl, rfl⟩
        obtain ⟨u, rfl⟩ := isI _ _ _ hj
        refine ⟨_, rfl, _, _, rfl, rfl, .inr ⟨by decide, by decide⟩, _, rfl, _, _, rfl, rfl, .inl ⟨_, rfl, _, _, rfl, rfl, (by decide : (0 : Int) < 1000000007), ?_⟩⟩
        exact ⟨_, _, rfl, rfl⟩
      · rintro σ H' ⟨c2, v3, rfl, rfl⟩
        refine ⟨_, rfl, _, _, rfl, rfl, .inr ⟨by decide, by decide⟩, _, rfl, _, _, rfl, rfl, .inl ⟨by decide, by decide⟩, _, _, rfl, rfl, _, _, rfl, rfl, .inl ⟨_, rfl, _, _, rfl, rfl, (by decide : (0 : Int) < 2147483629), ?_⟩⟩
        have z0 : 0 ≤ (c2 * 4099 + 271 * (i : Int) + 17) % 2147483629 := Int.emod_nonneg _ (by decide)
        have z1 : (c2 * 4099 + 271 * (i : Int) + 17) % 2147483629 < 2147483629 := Int.emod_lt_of_pos _ (by decide)
        refine ⟨_, rfl, _, _, rfl, rfl, _, rfl, ite2 (fun e3 => ?_) (fun e3 => ?_)⟩
        · refine iteT ⟨_, rfl, _, rfl, (by show 2 ≤ sizeLine; decide), fun p hp => ?_⟩
          refine k _ p (sm.trans (same_upd hp)) (sm.free hp) ⟨_, _, upd_same, z0, z1, ?_⟩
          split <;> omega
        · refine ⟨_, rfl, _, _, rfl, rfl, ⟨by decide, by decide, by decide⟩, _, _, rfl, rfl, _, rfl, ite2 (fun e4 => ?_) (fun e4 => ?_)⟩
          · refine ⟨_, rfl, _, rfl, (by show 2 ≤ sizeLine; decide), fun p hp => ?_⟩
            refine k _ p (sm.trans (same_upd hp)) (sm.free hp) ⟨_, _, upd_same, z0, z1, ?_⟩
            split <;> omega
          · refine ⟨(by show 2 ≤ sizeLine; decide), fun p hp => ?_⟩
            exact k _ p (sm.trans (same_upd hp)) (sm.free hp) ⟨_, _, upd_same, z0, z1, by decide⟩
end
end RL

namespace RL
open PySem L2
theorem mx {a b : Nat} {i j : Int} (hi : Sm a i) (hj : Sm b j) (h : a + b ≤ 134217728 := by decide) : CMulX i j := mulx_ok hi hj h
theorem dvw {b : Nat} {i j : Int} (h : 0 < j) (hb : Sm b j) (h0 : 0 < b := by decide) (h9 : b ≤ 9000 := by decide) : CDivW i j := wide_div h hb h0 h9
structure Txt2 (K : PySem.W.Frag) (mg : Str → Option Value) (tG : Tok) (aO : Addr) : Prop extends Txt K mg where
  mgG : mg "GREATEST" = some (.int 1000000000000 tG)
  mgO : mg "OPEN" = some (.ref aO)
  opn : ∃ (o : Obj) (its : Array Value) (n : Nat), K.lookup aO = some o ∧ o.cls = .type "tuple" ∧ o.data = .seq its n ∧ its.size ≤ sizeLine ∧ Vals [.int 1, .int 0] its.toList
def ResP (t b : Int) : Prop := (0 ≤ t ∧ t ≤ 1000000000000 ∧ 1 ≤ b ∧ b ≤ 1000000000000) ∨ (t = 1 ∧ b = 0)
def spIsInt : Sp := fun vs H Q _ => (∃ i, vs = [.int i] ∧ Q (.bl true) H) ∨ (∃ p xs, vs = [.ref p] ∧ H p = some (.tup xs) ∧ Q (.bl false) H)
def spWithin : Sp := fun vs H Q _ => ∃ v lo hi : Int, vs = [.int v, .int lo, .int hi] ∧ lo ≤ v ∧ v ≤ hi ∧ Q (.bl true) H
def spIsPair : Sp := fun vs H Q _ => ∃ (p : Addr) (t b : Int), vs = [.ref p] ∧ H p = some (.tup [.int t, .int b]) ∧ Q (.bl true) H
def spIsRes : Sp := fun vs H Q _ => (∃ i : Int, vs = [.int i] ∧ 0 ≤ i ∧ i ≤ 1000000000000 ∧ Q (.bl true) H) ∨ (∃ (p : Addr) (t b : Int), vs = [.ref p] ∧ H p = some (.tup [.int t, .int b]) ∧ ResP t b ∧ Q (.bl true) H)
def spPairOf : Sp := fun vs H Q _ => (∃ i, vs = [.int i] ∧ ∀ H' p, Same H H' → H p = none → H' p = some (.tup [.int i, .int 1]) → Q (.ref p) H') ∨ (∃ p xs, vs = [.ref p] ∧ H p = some (.tup xs) ∧ Q (.ref p) H)
def spGcd : Sp := fun vs H Q _ => ∃ x y : Int, vs = [.int x, .int y] ∧ Q (.int (gc x y)) H
def spLow : Sp := fun vs H Q _ => ∃ (t b : Int), vs = [.int t, .int b] ∧ Pos2 (t, b) ∧ Sm 4000 t ∧ Sm 4000 b ∧
  ∀ H' p, Same H H' → H p = none → H' p = some (.tup [.int (low (t, b)).1, .int (low (t, b)).2]) → Q (.ref p) H'
def spLowP : Sp := fun vs H Q _ => ∃ (v : V) (e : Int × Int), vs = [v] ∧ ((∃ i, v = .int i ∧ e = (i, 1)) ∨ (∃ p, v = .ref p ∧ H p = some (.tup [.int e.1, .int e.2]))) ∧ Pos2 e ∧ Sm 4000 e.1 ∧ Sm 4000 e.2 ∧
  ∀ H' p, Same H H' → H p = none → H' p = some (.tup [.int (low e).1, .int (low e).2]) → Q (.ref p) H'
section
variable {P : Program} {w : World} {K : PySem.W.Frag} {mg : Str → Option Value} {base : Heap} {tG : Tok} {aO : Addr}
abbrev s_is_integer : Stmt := top 8
theorem sc_is_integer : FnScope ["value"] ["value"] (defScope s_is_integer) := ⟨rfl, rfl, rfl, by decide +kernel, rfl, by decide +kernel, by decide +kernel⟩

theorem ok_isint {f : Addr} {fd : FuncData} (F : Fun K "is_integer" "is_integer" s_is_integer f fd) (T : Txt K mg) : FnOk P w K mg base CX0 1 f fd ["value"] spIsInt := by
  refine F.ok sc_is_integer (fun vs H Q E h => ?_) (fun cdv A outer s H vs Q E hr h => ?_)
  · rcases h with ⟨i, rfl, _⟩ | ⟨p, xs, rfl, _⟩ <;> rfl
  · refine ⟨_, (pss_one (ps_ret (pe_and (pe_callB call_isi (by rfl) T.isinstance (by decide +kernel) (pa_cons (pv 0) (pa_cons (pe_bltn (v := .ty "int") (by rfl) T.int_ (by decide +kernel) rfl) pa_nil))) (pe_one (pe_not (pe_callB call_isi (by rfl) T.isinstance (by decide +kernel) (pa_cons (pv 0) (pa_cons (pe_bltn (v := .ty "bool") (by rfl) T.bool_ (by decide +kernel) rfl) pa_nil)))))))), ?_⟩
    rcases h with ⟨i, rfl, k⟩ | ⟨p, xs, rfl, hp, k⟩
    · refine ⟨_, rfl, _, _, _, _, true, rfl, .ty _, .base (.int i), kit_ty (by decide +kernel), true, rfl, iteT ?_⟩
      exact ⟨_, rfl, _, _, _, _, false, rfl, .ty _, .base (.int i), kit_ty (by decide +kernel), false, rfl, k⟩
    · refine ⟨_, rfl, _, _, _, _, false, rfl, .ty _, .base (.tup hp), kit_ty (by decide +kernel), false, rfl, iteF ?_⟩
      exact k
abbrev s_is_integer_within : Stmt := top 9
theorem sc_is_integer_within : FnScope ["value", "least", "most"] ["value", "least", "most"] (defScope s_is_integer_within) := ⟨rfl, rfl, rfl, by decide +kernel, rfl, by decide +kernel, by decide +kernel⟩

theorem ok_within {f : Addr} {fd : FuncData} (F : Fun K "is_integer_within" "is_integer_within" s_is_integer_within f fd) (D_is_integer : Df P w K mg base 1 "is_integer" ["value"] spIsInt) : FnOk P w K mg base CX0 2 f fd ["value", "least", "most"] spWithin := by
  refine F.ok sc_is_integer_within (fun vs H Q E h => ?_) (fun cdv A outer s H vs Q E hr h => ?_)
  · obtain ⟨v, lo, hi, rfl, _⟩ := h
    rfl
  · obtain ⟨v, lo, hi, rfl, h1, h2, k⟩ := h
    refine ⟨_, (pss_one (ps_ret (pe_and (pe_df D_is_integer (hr.mono (by decide)) (by rfl) (pa_cons (pv 0) pa_nil)) (pe_one (pe_chain op_le op_le (pv 1) (pv 0) (pv 2)))))), ?_⟩
    refine ⟨_, rfl, .inl ⟨v, rfl, true, rfl, iteT ?_⟩⟩
    refine ⟨_, rfl, _, rfl, _, _, rfl, rfl, _, rfl, ite2 (fun _ => ?_) (fun e => absurd (decide_eq_true h1) e)⟩
    refine ⟨_, rfl, _, _, rfl, rfl, ?_⟩
    show Q (.bl (decide (v ≤ hi))) H
    rw [decide_eq_true h2]
    exact k
abbrev s_is_pair_of_integers : Stmt := top 11
theorem sc_is_pair_of_integers : FnScope ["value"] ["value"] (defScope s_is_pair_of_integers) := ⟨rfl, rfl, rfl, by decide +kernel, rfl, by decide +kernel, by decide +kernel⟩

theorem ok_ispair {f : Addr} {fd : FuncData} (F : Fun K "is_pair_of_integers" "is_pair_of_integers" s_is_pair_of_integers f fd) (T : Txt K mg) (D_is_integer : Df P w K mg base 1 "is_integer" ["value"] spIsInt) : FnOk P w K mg base CX0 2 f fd ["value"] spIsPair := by
  refine F.ok sc_is_pair_of_integers (fun vs H Q E h => ?_) (fun cdv A outer s H vs Q E hr h => ?_)
  · obtain ⟨p, t, b, rfl, _⟩ := h
    rfl
  · obtain ⟨p, t, b, rfl, hp, k⟩ := h
    refine ⟨_, (pss_one (ps_ret (pe_and (pe_callB call_isi (by rfl) T.isinstance (by decide +kernel) (pa_cons (pv 0) (pa_cons (pe_bltn (v := .ty "tuple") (by rfl) T.tuple_ (by decide +kernel) rfl) pa_nil))) (pe_and (pe_cmpR op_eq (pe_callB call_len_seq (by rfl) T.len (by decide +kernel) (pa_cons (pv 0) pa_nil)) pe_int (nomark _)) (pe_and (pe_df D_is_integer (hr.mono (by decide)) (by rfl) (pa_cons (pe_ix ix_tup (pv 0) pe_int (fun _ _ => rfl)) pa_nil)) (pe_one (pe_df D_is_integer (hr.mono (by decide)) (by rfl) (pa_cons (pe_ix ix_tup (pv 0) pe_int (fun _ _ => rfl)) pa_nil)))))))), ?_⟩
    refine ⟨_, rfl, _, _, _, _, true, rfl, .ty _, .base (.tup hp), kit_ty (by decide +kernel), true, rfl, iteT ?_⟩
    refine ⟨_, rfl, p, _, rfl, .inr (SqT.of hp), rfl, true, rfl, iteT ?_⟩
    refine ⟨_, rfl, p, _, _, _, rfl, rfl, SqT.of hp, atI_nat (j := 0) rfl, .inl ⟨t, rfl, true, rfl, iteT ?_⟩⟩
    exact ⟨_, rfl, p, _, _, _, rfl, rfl, SqT.of hp, atI_nat (j := 1) rfl, .inl ⟨b, rfl, k⟩⟩
abbrev s_is_resistance : Stmt := top 12
theorem sc_is_resistance : FnScope ["value", "top", "bottom"] ["value"] (defScope s_is_resistance) := ⟨rfl, rfl, rfl, by decide +kernel, rfl, by decide +kernel, by decide +kernel⟩

theorem ok_isres {f : Addr} {fd : FuncData} (F : Fun K "is_resistance" "is_resistance" s_is_resistance f fd) (T : Txt2 K mg tG aO) (D_is_integer : Df P w K mg base 1 "is_integer" ["value"] spIsInt) (D_is_pair_of_integers : Df P w K mg base 2 "is_pair_of_integers" ["value"] spIsPair) : FnOk P w K mg base CX0 3 f fd ["value"] spIsRes := by
  refine F.ok sc_is_resistance (fun vs H Q E h => ?_) (fun cdv A outer s H vs Q E hr h => ?_)
  · rcases h with ⟨i, rfl, _⟩ | ⟨p, t, b, rfl, _⟩ <;> rfl
  · refine ⟨_, (pss_cons (ps_if (pt_val (pe_df D_is_integer (hr.mono (by decide)) (by rfl) (pa_cons (pv 0) pa_nil))) (pss_one (ps_ret (pe_chain op_le op_le pe_int (pv 0) (pe_glob (v := .int 1000000000000) rfl T.mgG ⟨_, rfl⟩)))) pss_nil)
      (pss_cons (ps_if (pt_not (pt_val (pe_df D_is_pair_of_integers (hr.mono (by decide)) (by rfl) (pa_cons (pv 0) pa_nil)))) (pss_one (ps_ret pe_bl)) pss_nil)
      (pss_cons (ps_asg (pv 0) (pg_tup rfl (pgs_cons (pg_name (i := 1) sc_is_resistance.nd rfl (.inl rfl)) (pgs_cons (pg_name (i := 2) sc_is_resistance.nd rfl (.inl rfl)) pgs_nil))))
      (pss_one (ps_ret (pe_or (pe_cmpR (op_eqD hr.units) (pv 0) (pe_glob (v := .ref aO) rfl T.mgO rfl) (nomark _)) (pe_one (pe_and (pe_chain op_le op_le pe_int (pv 1) (pe_glob (v := .int 1000000000000) rfl T.mgG ⟨_, rfl⟩)) (pe_one (pe_chain op_le op_le pe_int (pv 2) (pe_glob (v := .int 1000000000000) rfl T.mgG ⟨_, rfl⟩))))))))))), ?_⟩
    rcases h with ⟨i, rfl, i0, i1, k⟩ | ⟨p, t, b, rfl, hp, hR, k⟩
    · refine ⟨_, rfl, .inl ⟨i, rfl, true, rfl, iteT ?_⟩⟩
      refine ⟨_, rfl, _, _, rfl, rfl, _, rfl, ite2 (fun _ => ?_) (fun e => absurd (decide_eq_true i0) e)⟩
      refine ⟨_, _, rfl, rfl, ?_⟩
      show Q (.bl (decide (i ≤ 1000000000000))) H
      rw [decide_eq_true i1]
      exact k
    · refine ⟨_, rfl, .inr ⟨p, _, rfl, hp, false, rfl, iteF ?_⟩⟩
      refine ⟨_, rfl, p, t, b, rfl, hp, true, rfl, iteF ?_⟩
      refine ⟨_, rfl, p, _, rfl, SqT.of hp, rfl, _, _, rfl, _, _, rfl, rfl, ?_⟩
      refine ⟨_, rfl, .tuple [.int t, .int b], .tuple [.int 1, .int 0], .tup (SqT.of hp) (.cons (.int _) (.cons (.int _) .nil)), .tup (.inr T.opn) (.cons (.int _) (.cons (.int _) .nil)), rfl, rfl, _, rfl, ite2 (fun _ => k) (fun e => ?_)⟩
      rcases hR with ⟨t0, t1, b0, b1⟩ | ⟨rfl, rfl⟩
      · refine ⟨_, rfl, _, _, rfl, rfl, _, rfl, ite2 (fun _ => ?_) (fun e => absurd (decide_eq_true t0) e)⟩
        refine ⟨_, _, rfl, rfl, _, rfl, ite2 (fun _ => ?_) (fun e => absurd (decide_eq_true t1) e)⟩
        refine ⟨_, rfl, _, _, rfl, rfl, _, rfl, ite2 (fun _ => ?_) (fun e => absurd (decide_eq_true b0) e)⟩
        refine ⟨_, _, rfl, rfl, ?_⟩
        show Q (.bl (decide (b ≤ 1000000000000))) H
        rw [decide_eq_true b1]
        exact k
      · exact absurd (SeqAt.eqv_refl _ (by decide +kernel)) e
abbrev s_pair_of : Stmt := top 13
theorem sc_pair_of : FnScope ["fraction_or_open"] ["fraction_or_open"] (defScope s_pair_of) := ⟨rfl, rfl, rfl, by decide +kernel, rfl, by decide +kernel, by decide +kernel⟩

theorem ok_pairof {f : Addr} {fd : FuncData} (F : Fun K "pair_of" "pair_of" s_pair_of f fd) (D_is_integer : Df P w K mg base 1 "is_integer" ["value"] spIsInt) : FnOk P w K mg base CX0 2 f fd ["fraction_or_open"] spPairOf := by
  refine F.ok sc_pair_of (fun vs H Q E h => ?_) (fun cdv A outer s H vs Q E hr h => ?_)
  · rcases h with ⟨i, rfl, _⟩ | ⟨p, xs, rfl, _⟩ <;> rfl
  · refine ⟨_, (pss_cons (ps_if (pt_val (pe_df D_is_integer (hr.mono (by decide)) (by rfl) (pa_cons (pv 0) pa_nil))) (pss_one (ps_ret (pe_tup (pa_cons (pv 0) (pa_cons pe_int pa_nil))))) pss_nil)
      (pss_one (ps_ret (pv 0)))), ?_⟩
    rcases h with ⟨i, rfl, k⟩ | ⟨p, xs, rfl, hp, k⟩
    · refine ⟨_, rfl, .inl ⟨i, rfl, true, rfl, iteT ?_⟩⟩
      exact ⟨_, rfl, (by show 2 ≤ sizeLine; decide), fun q hq => k _ q (same_upd hq) hq upd_same⟩
    · refine ⟨_, rfl, .inr ⟨p, _, rfl, hp, false, rfl, iteF ?_⟩⟩
      exact ⟨_, rfl, k⟩
abbrev s_common_divisor : Stmt := top 14
theorem sc_common_divisor : FnScope ["first", "second", "high", "low"] ["first", "second"] (defScope s_common_divisor) := ⟨rfl, rfl, rfl, by decide +kernel, rfl, by decide +kernel, by decide +kernel⟩

theorem ok_gcd {f : Addr} {fd : FuncData} (F : Fun K "common_divisor" "common_divisor" s_common_divisor f fd) (T : Txt K mg) : FnOk P w K mg base CX0 1 f fd ["first", "second"] spGcd := by
  refine F.ok sc_common_divisor (fun vs H Q E h => ?_) (fun cdv A outer s H vs Q E hr h => ?_)
  · obtain ⟨t, b, rfl, _⟩ := h
    rfl
  · obtain ⟨t, b, rfl, k⟩ := h
    refine ⟨_, (pss_cons (ps_par (by rfl) sc_common_divisor.nd (i := 2) (j := 3) rfl rfl (by decide) rfl rfl (pa_cons (pe_callB call_abs (by rfl) T.abs (by decide +kernel) (pa_cons (pv 0) pa_nil)) (pa_cons (pe_callB call_abs (by rfl) T.abs (by decide +kernel) (pa_cons (pv 1) pa_nil)) pa_nil)) (by rfl))
      (pss_cons (ps_while PassesOwn.never (pt_cmpR op_gt (pv 3) pe_int (nomark _)) (pss_one (ps_par (by rfl) sc_common_divisor.nd (i := 2) (j := 3) rfl rfl (by decide) rfl rfl (pa_cons (pv 3) (pa_cons (pe_op op_mod (pv 2) (pv 3)) pa_nil)) (by rfl))))
      (pss_one (ps_ret (pv 2))))), ?_⟩
    refine ⟨_, rfl, _, rfl, _, rfl, _, rfl, _, _, rfl, ?_⟩
    refine while_by (fun σ H' => H' = H ∧ ∃ x y : Int, σ = [some (.int t), some (.int b), some (.int x), some (.int y)] ∧ 0 ≤ x ∧ 0 ≤ y ∧ gc x y = gc t b) (fun σ _ => match σ with | [_, _, _, some (.int y)] => y.toNat | _ => 0) ⟨rfl, _, _, rfl, by split <;> omega, by split <;> omega, gc_abs _ _⟩ ?_ ?_
    · rintro σ H' ⟨rfl, x, y, rfl, x0, y0, eg⟩
      refine ⟨_, rfl, _, _, rfl, rfl, _, rfl, ite2 (fun e => ?_) (fun e => ?_)⟩
      · have e0 : 0 < y := of_decide_eq_true e
        refine ⟨_, rfl, _, rfl, _, rfl, _, _, rfl, rfl, e0, _, _, rfl, ?_⟩
        have q1 := Int.emod_nonneg x (show y ≠ 0 by omega)
        have q2 := Int.emod_lt_of_pos x e0
        refine ⟨⟨rfl, y, x % y, rfl, y0, q1, ?_⟩, ?_⟩
        · rw [gc_step x0 e0, eg]
        · show (x % y).toNat < y.toNat
          omega
      · have e0 : ¬ 0 < y := fun z => e (decide_eq_true z)
        have y1 : y = 0 := by omega
        subst y1
        rw [gc_zero x0] at eg
        subst eg
        exact ⟨_, rfl, k⟩
    · rintro σ H' Q1 Q2 hq h
      obtain ⟨v, e1, i, j, e2, e3, z⟩ := h
      exact ⟨v, e1, i, j, e2, e3, z.imp fun k z => ⟨z.1, hq _ _ z.2⟩⟩
abbrev s_lowest_terms : Stmt := top 15
theorem sc_lowest_terms : FnScope ["top", "bottom", "divisor"] ["top", "bottom"] (defScope s_lowest_terms) := ⟨rfl, rfl, rfl, by decide +kernel, rfl, by decide +kernel, by decide +kernel⟩

theorem ok_low {f : Addr} {fd : FuncData} (F : Fun K "lowest_terms" "lowest_terms" s_lowest_terms f fd) (D_common_divisor : Df P w K mg base 1 "common_divisor" ["first", "second"] spGcd) : FnOk P w K mg base CX0 2 f fd ["top", "bottom"] spLow := by
  refine F.ok sc_lowest_terms (fun vs H Q E h => ?_) (fun cdv A outer s H vs Q E hr h => ?_)
  · obtain ⟨t, b, rfl, _⟩ := h
    rfl
  · obtain ⟨t, b, rfl, tb, ts, bs, k⟩ := h
    refine ⟨_, (pss_cons (ps_set (i := 2) sc_lowest_terms.nd rfl (.inl rfl) (pe_df D_common_divisor (hr.mono (by decide)) (by rfl) (pa_cons (pv 0) (pa_cons (pv 1) pa_nil))))
      (pss_one (ps_ret (pe_tup (pa_cons (pe_op op_fdivW (pv 0) (pv 2)) (pa_cons (pe_op op_fdivW (pv 1) (pv 2)) pa_nil)))))), ?_⟩
    have g0 : 0 < gc t b := gc_pos2 tb
    have gs : Sm 4000 (gc t b) := gc_sm tb ts bs
    refine ⟨_, rfl, _, rfl, t, b, rfl, ?_⟩
    refine ⟨_, rfl, _, rfl, _, _, rfl, rfl, dvw g0 gs, _, rfl, _, rfl, _, _, rfl, rfl, dvw g0 gs, (by show 2 ≤ sizeLine; decide), fun p hp => ?_⟩
    exact k _ _ (same_upd hp) hp upd_same
abbrev s_lowest_pair : Stmt := top 16
theorem sc_lowest_pair : FnScope ["fraction_or_open", "top", "bottom"] ["fraction_or_open"] (defScope s_lowest_pair) := ⟨rfl, rfl, rfl, by decide +kernel, rfl, by decide +kernel, by decide +kernel⟩

theorem ok_lowp {f : Addr} {fd : FuncData} (F : Fun K "lowest_pair" "lowest_pair" s_lowest_pair f fd) (D_pair_of : Df P w K mg base 2 "pair_of" ["fraction_or_open"] spPairOf) (D_lowest_terms : Df P w K mg base 2 "lowest_terms" ["top", "bottom"] spLow) : FnOk P w K mg base CX0 3 f fd ["fraction_or_open"] spLowP := by
  refine F.ok sc_lowest_pair (fun vs H Q E h => ?_) (fun cdv A outer s H vs Q E hr h => ?_)
  · obtain ⟨v, e, rfl, _⟩ := h
    rfl
  · obtain ⟨v, e, rfl, hv, ep, e1, e2, k⟩ := h
    refine ⟨_, (pss_cons (ps_asg (pe_df D_pair_of (hr.mono (by decide)) (by rfl) (pa_cons (pv 0) pa_nil)) (pg_tup rfl (pgs_cons (pg_name (i := 1) sc_lowest_pair.nd rfl (.inl rfl)) (pgs_cons (pg_name (i := 2) sc_lowest_pair.nd rfl (.inl rfl)) pgs_nil))))
      (pss_one (ps_ret (pe_df D_lowest_terms (hr.mono (by decide)) (by rfl) (pa_cons (pv 1) (pa_cons (pv 2) pa_nil)))))), ?_⟩
    rcases hv with ⟨i, rfl, rfl⟩ | ⟨p, rfl, hp⟩
    · refine ⟨_, rfl, .inl ⟨i, rfl, fun H1 t s1 nt ht => ?_⟩⟩
      refine ⟨t, _, rfl, SqT.of ht, rfl, _, _, rfl, _, _, rfl, rfl, ?_⟩
      exact ⟨_, rfl, _, rfl, _, _, rfl, ep, e1, e2, fun H2 t2 s2 nt2 ht2 => k _ t2 (s1.trans s2) (s1.free nt2) ht2⟩
    · refine ⟨_, rfl, .inr ⟨p, _, rfl, hp, ?_⟩⟩
      refine ⟨p, _, rfl, SqT.of hp, rfl, _, _, rfl, _, _, rfl, rfl, ?_⟩
      exact ⟨_, rfl, _, rfl, _, _, rfl, ep, e1, e2, fun H2 t2 s2 nt2 ht2 => k _ t2 s2 nt2 ht2⟩
end
end RL

namespace RL
open PySem L2
/-! ### the texts of pieces -/
def wd (r : Bool) : Str := if r = true then Str.ofString "rail" else Str.ofString "rung"
def ptx (p : Pc) : Str := wd p.1 ++ Str.ofString " " ++ ts p.2
theorem ptx_dec : ∀ r r' : Bool, ∀ i j : Fin 12, ptx (r, (i.val : Int) + 1) = ptx (r', (j.val : Int) + 1) → r = r' ∧ i = j := by decide +kernel
theorem ptx_free_dec : ∀ r : Bool, ∀ i : Fin 12, 44 ∉ TL.tl (ptx (r, (i.val : Int) + 1)) ∧ (ptx (r, (i.val : Int) + 1)).length ≤ 7 := by decide +kernel
theorem pc_fin {p : Pc} (h : PcOk p) : ∃ i : Fin 12, p = (p.1, (i.val : Int) + 1) := by
  obtain ⟨h1, h2⟩ := h
  refine ⟨⟨(p.2 - 1).toNat, by omega⟩, ?_⟩
  ext
  · rfl
  · dsimp
    omega
theorem ptx_inj {p q : Pc} (hp : PcOk p) (hq : PcOk q) (h : ptx p = ptx q) : p = q := by
  obtain ⟨i, ei⟩ := pc_fin hp
  obtain ⟨j, ej⟩ := pc_fin hq
  rw [ei, ej] at h
  obtain ⟨a, b⟩ := ptx_dec _ _ _ _ h
  rw [ei, ej, a, b]
theorem ptx_free {p : Pc} (hp : PcOk p) : 44 ∉ TL.tl (ptx p) := by
  obtain ⟨i, ei⟩ := pc_fin hp
  rw [ei]
  exact (ptx_free_dec _ _).1
theorem ptx_len {p : Pc} (hp : PcOk p) : (ptx p).length ≤ 7 := by
  obtain ⟨i, ei⟩ := pc_fin hp
  rw [ei]
  exact (ptx_free_dec _ _).2
theorem wd_inj {r r' : Bool} (h : wd r = wd r') : r = r' := by
  revert r r'
  decide +kernel
theorem both {R G : Prop} (f : R → G) (r : R) : G := f r
theorem ne_selfV (v : V) : ¬ (!decide (v = v)) = true := by
  rw [decide_eq_true rfl]
  decide
/-! ### rows in the heap -/
def PieceAt (H : Hp) (v : V) (p : Pc) : Prop := ∃ t, v = .ref t ∧ H t = some (.tup [.str (wd p.1), .int p.2])
def PiecesAt (H : Hp) (vs : List V) (r : List Pc) : Prop := vs.length = r.length ∧ ∀ (i : Nat) (p : Pc), r[i]? = some p → ∃ v, vs[i]? = some v ∧ PieceAt H v p
theorem PieceAt.same {H H' : Hp} {v : V} {p : Pc} (h : PieceAt H v p) (s : Same H H') : PieceAt H' v p := by
  obtain ⟨t, e, ht⟩ := h
  exact ⟨t, e, s _ _ ht⟩
theorem PiecesAt.same {H H' : Hp} {vs : List V} {r : List Pc} (h : PiecesAt H vs r) (s : Same H H') : PiecesAt H' vs r :=
  ⟨h.1, fun i p hp => let ⟨v, hv, q⟩ := h.2 i p hp; ⟨v, hv, q.same s⟩⟩
theorem PieceAt.but {H H' : Hp} {x : Addr} {v : V} {p : Pc} (h : PieceAt H v p) (s : But x H H') (hx : ∀ xs, H x ≠ some (.tup xs)) : PieceAt H' v p := by
  obtain ⟨t, e, ht⟩ := h
  refine ⟨t, e, s _ _ ?_ ht⟩
  rintro rfl
  exact hx _ ht
theorem PiecesAt.but {H H' : Hp} {x : Addr} {vs : List V} {r : List Pc} (h : PiecesAt H vs r) (s : But x H H') (hx : ∀ xs, H x ≠ some (.tup xs)) : PiecesAt H' vs r :=
  ⟨h.1, fun i p hp => let ⟨v, hv, q⟩ := h.2 i p hp; ⟨v, hv, q.but s hx⟩⟩
theorem PiecesAt.at_ {H : Hp} {vs : List V} {r : List Pc} (h : PiecesAt H vs r) {i : Nat} {v : V} (hv : vs[i]? = some v) : ∃ p, r[i]? = some p ∧ PieceAt H v p := by
  have hi : i < r.length := by
    rw [← h.1]
    exact (List.getElem?_eq_some_iff.mp hv).1
  obtain ⟨w, hw, q⟩ := h.2 i r[i] (List.getElem?_eq_getElem hi)
  rw [hv] at hw
  cases hw
  exact ⟨_, List.getElem?_eq_getElem hi, q⟩
theorem RowOk.at_ {r : List Pc} (h : RowOk r) {i : Nat} {p : Pc} (hp : r[i]? = some p) : PcOk p := h p (List.mem_of_getElem? hp)
structure Txt3 (K : PySem.W.Frag) (mg : Str → Option Value) (tG t1 t2 t3 : Tok) (aO aW J C : Addr) : Prop extends Txt2 K mg tG aO where
  mgOh : mg "MOST_OHMS" = some (.int 12 t1)
  mgPi : mg "MOST_PIECES" = some (.int 4 t2)
  mgJo : mg "MOST_JOINED" = some (.int 8 t3)
  mgW : mg "WORDS" = some (.ref aW)
  wds : ∃ (o : Obj) (its : Array Value) (n : Nat), K.lookup aW = some o ∧ o.cls = .type "tuple" ∧ o.data = .seq its n ∧ its.size ≤ sizeLine ∧ Vals [.str (Str.ofString "rail"), .str (Str.ofString "rung")] its.toList
  mgJ : mg "JoinedRow" = some (.ref J)
  mgC : mg "Pattern" = some (.ref C)
  clJ : Cls K J
  nJ : NoAttr K J "row"
  caJ : PySem.W.findIn K (.ref J) "__class__" = some (some (.builtin "object.__class__"))
  cnJ : PySem.W.specialIn K (.builtin "object.__class__") "__get__" = some (some (.builtin "getset_descriptor.__get__"))
  ctJ : PySem.W.takesIn K (.builtin "object.__class__") = some true
  cmJ : PySem.W.mroIn K J (.type "object") = some true
  isJ : PySem.W.kitOne K (.ref J) (.ref J) = some true
  ktJ : PySem.W.kitOne K (.type "tuple") (.ref J) = some false
  cl : Cls K C
  nRow : NoAttr K C "row"
  nMat : NoAttr K C "matrix"
  nScl : NoAttr K C "scale"
  nFour : NoAttr K C "four"
/-! ### promises -/
def spJ (J : Addr) : Sp := fun vs H Q _ => ∃ (x dx : Addr) (v : V), vs = [.ref x, v] ∧ H x = some (.ins J dx []) ∧ Q .non (upd H x (.ins J dx [("row", v)]))
def spIsPiece : Sp := fun vs H Q _ => ∃ (v : V) (p : Pc), vs = [v] ∧ PieceAt H v p ∧ PcOk p ∧ Q (.bl true) H
def spChk (J : Addr) : Sp := fun vs H Q _ => ∃ p : Addr, vs = [.ref p] ∧ ((∃ j dj q, H p = some (.tup [.ref j]) ∧ H j = some (.ins J dj [("row", .ref q)]) ∧ Q (.ref q) H) ∨
  (∃ ws r, H p = some (.tup ws) ∧ PiecesAt H ws r ∧ RowOk r ∧ 1 ≤ r.length ∧ r.length ≤ 4 ∧ ∀ H', Same H H' → Q (.ref p) H'))
def MatT (m : Mx) : List V := [.int m.a, .int m.b, .int m.c, .int m.d]
def spMat : Sp := fun vs H Q _ => ∃ (q : Addr) (ws : List V) (r : List Pc), vs = [.ref q] ∧ H q = some (.tup ws) ∧ PiecesAt H ws r ∧ RowOk r ∧ r.length ≤ 8 ∧
  ∀ H' p m, Same H H' → H' p = some (.tup [.ref m, .int (sclR r)]) → H' m = some (.tup (MatT (matR r))) → H p = none → H m = none → Q (.ref p) H'
def spShown : Sp := fun vs H Q _ => ∃ (a b : Addr) (m : Mx) (e : Int × Int), vs = [.ref a, .ref b] ∧ H a = some (.tup (MatT m)) ∧ H b = some (.tup [.int e.1, .int e.2]) ∧ MxSm 3000 m ∧ Sm 4000 e.1 ∧ Sm 4000 e.2 ∧
  ∀ H' p, Same H H' → H p = none → H' p = some (.tup [.int (m.app e).1, .int (m.app e).2]) → Q (.ref p) H'
def spPtx : Sp := fun vs H Q _ => ∃ p : Pc, vs = [.str (wd p.1), .int p.2] ∧ PcOk p ∧ Q (.str (ptx p)) H
def spPwt : Sp := fun vs H Q _ => ∃ p : Pc, vs = [.str (ptx p)] ∧ PcOk p ∧ ∀ H' t, Same H H' → H t = none → H' t = some (.tup [.str (wd p.1), .int p.2]) → Q (.ref t) H'
section
variable {P : Program} {w : World} {K : PySem.W.Frag} {mg : Str → Option Value} {base : Heap} {tG t1 t2 t3 : Tok} {aO aW J C : Addr}
abbrev s_JoinedRow_init : Stmt := inClass (top 33) 0
theorem sc_JoinedRow_init : FnScope ["self", "row"] ["self", "row"] (defScope s_JoinedRow_init) := ⟨rfl, rfl, rfl, by decide +kernel, rfl, by decide +kernel, by decide +kernel⟩

theorem ok_join {f : Addr} {fd : FuncData} (F : Fun K "__init__" "JoinedRow.__init__" s_JoinedRow_init f fd) (T : Txt3 K mg tG t1 t2 t3 aO aW J C) : FnOk P w K mg base CX0 1 f fd ["self", "row"] (spJ J) := by
  refine F.ok sc_JoinedRow_init (fun vs H Q E h => ?_) (fun cdv A outer s H vs Q E hr h => ?_)
  · obtain ⟨x, dx, v, rfl, _⟩ := h
    rfl
  · obtain ⟨x, dx, v, rfl, hx, k⟩ := h
    refine ⟨_, (pss_one (ps_fld (pv 0) (pv 1) rfl)), ?_⟩
    exact ⟨_, rfl, _, rfl, x, J, dx, _, rfl, hx, T.clJ, T.nJ, (by show 0 < 1000; decide), k⟩
abbrev s_is_piece : Stmt := top 36
theorem sc_is_piece : FnScope ["value", "word", "ohms"] ["value"] (defScope s_is_piece) := ⟨rfl, rfl, rfl, by decide +kernel, rfl, by decide +kernel, by decide +kernel⟩

theorem ok_ispiece {f : Addr} {fd : FuncData} (F : Fun K "is_piece" "is_piece" s_is_piece f fd) (T : Txt3 K mg tG t1 t2 t3 aO aW J C) (D_is_integer_within : Df P w K mg base 2 "is_integer_within" ["value", "least", "most"] spWithin) : FnOk P w K mg base CX0 3 f fd ["value"] spIsPiece := by
  refine F.ok sc_is_piece (fun vs H Q E h => ?_) (fun cdv A outer s H vs Q E hr h => ?_)
  · obtain ⟨v, p, rfl, _⟩ := h
    rfl
  · obtain ⟨v, p, rfl, ⟨t, rfl, ht⟩, ⟨p1, p2⟩, k⟩ := h
    refine ⟨_, (pss_cons (ps_if (PW.pt (pw_or (pt_not (pt_val (pe_callB call_isi (by rfl) T.isinstance (by decide +kernel) (pa_cons (pv 0) (pa_cons (pe_bltn (v := .ty "tuple") (by rfl) T.tuple_ (by decide +kernel) rfl) pa_nil))))) (pw_or1 (pt_cmpR op_ne (pe_callB call_len_seq (by rfl) T.len (by decide +kernel) (pa_cons (pv 0) pa_nil)) pe_int (nomark _))))) (pss_one (ps_ret pe_bl)) pss_nil)
      (pss_cons (ps_asg (pv 0) (pg_tup rfl (pgs_cons (pg_name (i := 1) sc_is_piece.nd rfl (.inl rfl)) (pgs_cons (pg_name (i := 2) sc_is_piece.nd rfl (.inl rfl)) pgs_nil))))
      (pss_one (ps_ret (pe_and (pe_callB call_isi (by rfl) T.isinstance (by decide +kernel) (pa_cons (pv 1) (pa_cons (pe_bltn (v := .ty "str") (by rfl) T.str_ (by decide +kernel) rfl) pa_nil))) (pe_and (pe_cmpR op_in_seq (pv 1) (pe_glob (v := .ref aW) rfl T.mgW rfl) (by rfl)) (pe_one (pe_df D_is_integer_within (hr.mono (by decide)) (by rfl) (pa_cons (pv 2) (pa_cons pe_int (pa_cons (pe_glob (v := .int 12) rfl T.mgOh ⟨_, rfl⟩) pa_nil))))))))))), ?_⟩
    refine ⟨_, rfl, _, _, _, _, true, rfl, .ty _, .base (.tup ht), kit_ty (by decide +kernel), true, rfl, iteF ?_⟩
    refine ⟨_, rfl, t, _, rfl, .inr (SqT.of ht), rfl, _, rfl, ite2 (fun e => absurd e (ne_selfV (.int 2))) (fun _ => ?_)⟩
    refine ⟨_, rfl, t, _, rfl, SqT.of ht, rfl, _, _, rfl, _, _, rfl, rfl, ?_⟩
    refine ⟨_, rfl, _, _, _, _, true, rfl, .ty _, .base (.str _), kit_ty (by decide +kernel), true, rfl, iteT ?_⟩
    have hin : inV (V.str (wd p.1)) [.str (Str.ofString "rail"), .str (Str.ofString "rung")] = true := by
      cases p.1 <;> decide +kernel
    refine ⟨_, rfl, aW, _, rfl, .inr (.inr T.wds), rfl, rfl, true, congrArg V.bl hin, iteT ?_⟩
    exact ⟨_, rfl, p.2, 1, 12, rfl, p1, p2, k⟩
abbrev s_checked_row : Stmt := top 35
theorem sc_checked_row : FnScope ["pieces", "at", "piece"] ["pieces"] (defScope s_checked_row) := ⟨rfl, rfl, rfl, by decide +kernel, rfl, by decide +kernel, by decide +kernel⟩

theorem ok_chk {f : Addr} {fd : FuncData} (F : Fun K "checked_row" "checked_row" s_checked_row f fd) (T : Txt3 K mg tG t1 t2 t3 aO aW J C) (D_is_piece : Df P w K mg base 3 "is_piece" ["value"] spIsPiece) : FnOk P w K mg base CX0 4 f fd ["pieces"] (spChk J) := by
  refine F.ok sc_checked_row (fun vs H Q E h => ?_) (fun cdv A outer s H vs Q E hr h => ?_)
  · obtain ⟨p, rfl, _⟩ := h
    rfl
  · obtain ⟨p, rfl, h⟩ := h
    refine ⟨_, (pss_cons (ps_if (PW.pt (pw_and (pt_cmpR op_eq (pe_callB call_len_seq (by rfl) T.len (by decide +kernel) (pa_cons (pv 0) pa_nil)) pe_int (nomark _)) (pw_and1 (pt_val (pe_callB call_isi (by rfl) T.isinstance (by decide +kernel) (pa_cons (pe_ix ix_tup (pv 0) pe_int (fun _ _ => rfl)) (pa_cons (pe_glob (v := .ref J) rfl T.mgJ rfl) pa_nil))))))) (pss_one (ps_ret (pe_fld (pe_ix ix_tup (pv 0) pe_int (fun _ _ => rfl)) rfl))) pss_nil)
      (pss_cons (ps_if (PW.pt (pw_or (pt_cmpR op_lt (pe_callB call_len_seq (by rfl) T.len (by decide +kernel) (pa_cons (pv 0) pa_nil)) pe_int (nomark _)) (pw_or1 (pt_cmpR op_gt (pe_callB call_len_seq (by rfl) T.len (by decide +kernel) (pa_cons (pv 0) pa_nil)) (pe_glob (v := .int 4) rfl T.mgPi ⟨_, rfl⟩) (nomark _))))) (pss_one ps_never) pss_nil)
      (pss_cons (ps_for PassesOwn.never rfl (pi_enumT (by rfl) T.enumerate (pa_cons (pv 0) pa_nil)) (pg_tup rfl (pgs_cons (pg_name (i := 1) sc_checked_row.nd rfl (.inl rfl)) (pgs_cons (pg_name (i := 2) sc_checked_row.nd rfl (.inl rfl)) pgs_nil))) (pss_one (ps_if (pt_not (pt_val (pe_df D_is_piece (hr.mono (by decide)) (by rfl) (pa_cons (pv 2) pa_nil)))) (pss_one ps_never) pss_nil)))
      (pss_one (ps_ret (pv 0)))))), ?_⟩
    rcases h with ⟨j, dj, q, hp, hj, k⟩ | ⟨ws, r, hp, hw, hok, l1, l4, k⟩
    · refine ⟨_, rfl, p, _, rfl, .inr (SqT.of hp), rfl, _, rfl, ite2 (fun _ => ?_) (fun e => absurd (decide_eq_true rfl) e)⟩
      refine ⟨_, rfl, p, _, _, _, rfl, rfl, SqT.of hp, atI_nat (j := 0) rfl, _, _, _, _, true, rfl, .own J, .base (.ins hj T.clJ T.caJ T.cnJ T.ctJ T.cmJ), T.isJ, true, rfl, iteT ?_⟩
      exact ⟨_, rfl, p, _, _, _, rfl, rfl, SqT.of hp, atI_nat (j := 0) rfl, j, J, dj, _, _, rfl, hj, T.clJ, T.nJ, rfl, k⟩
    · have lw : ws.length = r.length := hw.1
      refine both (fun rest => ⟨_, rfl, p, _, rfl, .inr (SqT.of hp), rfl, _, rfl, ite2 (fun e => ?_) (fun _ => rest)⟩) ?_
      · have e1 : ws.length = 1 := by
          have := V.int.inj (of_decide_eq_true e)
          omega
        obtain ⟨t, et, ht⟩ := (hw.2 0 r[0] (List.getElem?_eq_getElem (by omega)))
        obtain ⟨a, rfl, ha⟩ := ht
        refine ⟨_, rfl, p, _, _, _, rfl, rfl, SqT.of hp, atI_nat (j := 0) et, _, _, _, _, false, rfl, .own J, .base (.tup ha), T.ktJ, false, rfl, iteF rest⟩
      refine ⟨_, rfl, p, _, rfl, .inr (SqT.of hp), _, _, rfl, rfl, _, rfl, ite2 (fun e => ?_) (fun _ => ?_)⟩
      · have := of_decide_eq_true e
        omega
      refine ⟨_, rfl, p, _, rfl, .inr (SqT.of hp), _, _, rfl, rfl, _, rfl, ite2 (fun e => ?_) (fun _ => ?_)⟩
      · have := of_decide_eq_true e
        omega
      refine ⟨_, rfl, p, _, rfl, SqT.of hp, ?_⟩
      refine for_enumT (K := K) (a := p) (xs := ws) (fun i σ H' => Same H H' ∧ ∃ v1 v2, σ = [some (.ref p), v1, v2]) ⟨Same.refl _, none, none, rfl⟩ (fun i σ H' _ h => SqT.of (h.1 _ _ hp)) ?_ ?_
      · rintro i x σ H' T0 hx ⟨sm, v1, v2, rfl⟩ nT
        refine ⟨T0, _, rfl, SqT.of upd_same, rfl, _, _, rfl, _, _, rfl, rfl, ?_⟩
        obtain ⟨pc, hpc, hx'⟩ := hw.at_ hx
        have s2 := sm.trans (same_upd (o := .tup [.int (i : Nat), x]) nT)
        exact ⟨_, rfl, _, pc, rfl, hx'.same s2, hok.at_ hpc, true, rfl, iteF ⟨s2, _, _, rfl⟩⟩
      · rintro σ H' ⟨sm, v1, v2, rfl⟩
        exact ⟨_, rfl, k _ sm⟩
abbrev s_matrix_and_scale : Stmt := top 37
theorem sc_matrix_and_scale : FnScope ["row", "a", "b", "c", "d", "scale", "word", "ohms"] ["row"] (defScope s_matrix_and_scale) := ⟨rfl, rfl, rfl, by decide +kernel, rfl, by decide +kernel, by decide +kernel⟩

theorem ok_mat {f : Addr} {fd : FuncData} (F : Fun K "matrix_and_scale" "matrix_and_scale" s_matrix_and_scale f fd) : FnOk P w K mg base CX0 1 f fd ["row"] spMat := by
  refine F.ok sc_matrix_and_scale (fun vs H Q E h => ?_) (fun cdv A outer s H vs Q E hr h => ?_)
  · obtain ⟨q, ws, r, rfl, _⟩ := h
    rfl
  · obtain ⟨q, ws, r, rfl, hq, hw, hok, l8, k⟩ := h
    refine ⟨_, (pss_cons (ps_asg (pe_tup (pa_cons pe_int (pa_cons pe_int (pa_cons pe_int (pa_cons pe_int pa_nil))))) (pg_tup rfl (pgs_cons (pg_name (i := 1) sc_matrix_and_scale.nd rfl (.inl rfl)) (pgs_cons (pg_name (i := 2) sc_matrix_and_scale.nd rfl (.inl rfl)) (pgs_cons (pg_name (i := 3) sc_matrix_and_scale.nd rfl (.inl rfl)) (pgs_cons (pg_name (i := 4) sc_matrix_and_scale.nd rfl (.inl rfl)) pgs_nil))))))
      (pss_cons (ps_set (i := 5) sc_matrix_and_scale.nd rfl (.inl rfl) pe_int)
      (pss_cons (ps_for PassesOwn.never rfl (pi_tup (pv 0)) (pg_tup rfl (pgs_cons (pg_name (i := 6) sc_matrix_and_scale.nd rfl (.inl rfl)) (pgs_cons (pg_name (i := 7) sc_matrix_and_scale.nd rfl (.inl rfl)) pgs_nil))) (pss_one (ps_if (pt_cmpR op_eq (pv 6) pe_str (nomark _)) (pss_one (ps_par (by rfl) sc_matrix_and_scale.nd (i := 2) (j := 4) rfl rfl (by decide) rfl rfl (pa_cons (pe_op op_add (pe_op op_mulX (pv 1) (pv 7)) (pv 2)) (pa_cons (pe_op op_add (pe_op op_mulX (pv 3) (pv 7)) (pv 4)) pa_nil)) (by rfl))) (pss_cons (ps_asg (pe_tup (pa_cons (pe_op op_add (pe_op op_mulX (pv 1) (pv 7)) (pv 2)) (pa_cons (pe_op op_mulX (pv 2) (pv 7)) (pa_cons (pe_op op_add (pe_op op_mulX (pv 3) (pv 7)) (pv 4)) (pa_cons (pe_op op_mulX (pv 4) (pv 7)) pa_nil))))) (pg_tup rfl (pgs_cons (pg_name (i := 1) sc_matrix_and_scale.nd rfl (.inl rfl)) (pgs_cons (pg_name (i := 2) sc_matrix_and_scale.nd rfl (.inl rfl)) (pgs_cons (pg_name (i := 3) sc_matrix_and_scale.nd rfl (.inl rfl)) (pgs_cons (pg_name (i := 4) sc_matrix_and_scale.nd rfl (.inl rfl)) pgs_nil))))))
      (pss_one (ps_set (i := 5) sc_matrix_and_scale.nd rfl (.inl rfl) (pe_op op_mulX (pv 5) (pv 7))))))))
      (pss_one (ps_ret (pe_tup (pa_cons (pe_tup (pa_cons (pv 1) (pa_cons (pv 2) (pa_cons (pv 3) (pa_cons (pv 4) pa_nil))))) (pa_cons (pv 5) pa_nil)))))))), ?_⟩
    refine ⟨(by show 4 ≤ sizeLine; decide), fun p0 hp0 => ⟨p0, _, rfl, SqT.of upd_same, rfl, _, _, rfl, _, _, rfl, _, _, rfl, _, _, rfl, rfl, ?_⟩⟩
    have s0 := same_upd (o := .tup [.int 1, .int 0, .int 0, .int 1]) hp0
    refine ⟨_, rfl, q, rfl, ⟨_, SqT.of (s0 _ _ hq)⟩, ?_⟩
    refine for_tup (K := K) (a := q) (xs := ws) (fun i σ H' => Same H H' ∧ ∃ v1 v2, σ = [some (.ref q), some (.int ((r.take i).foldl stepM m1).a), some (.int ((r.take i).foldl stepM m1).b), some (.int ((r.take i).foldl stepM m1).c), some (.int ((r.take i).foldl stepM m1).d), some (.int ((r.take i).foldl stepS 1)), v1, v2]) ⟨s0, none, none, rfl⟩ (fun i σ H' _ h => SqT.of (h.1 _ _ hq)) ?_ ?_
    · rintro i x σ H' hx ⟨sm, v1, v2, rfl⟩
      obtain ⟨pc, hpc, t, rfl, ht⟩ := hw.at_ hx
      have hi : i < r.length := (List.getElem?_eq_some_iff.mp hpc).1
      have tk : r.take (i + 1) = r.take i ++ [pc] := by
        rw [List.take_succ, hpc]
        rfl
      have f1 : (r.take (i + 1)).foldl stepM m1 = stepM ((r.take i).foldl stepM m1) pc := by rw [tk, List.foldl_append]; rfl
      have f2 : (r.take (i + 1)).foldl stepS 1 = stepS ((r.take i).foldl stepS 1) pc := by rw [tk, List.foldl_append]; rfl
      have okt : RowOk (r.take i) := fun z hz => hok z (List.mem_of_mem_take hz)
      have ms : MxSm 41 ((r.take i).foldl stepM m1) := (fold_sm okt m1_sm).mono (by rw [List.length_take]; omega)
      have ss : Sm 41 ((r.take i).foldl stepS 1) := (scl_sm (n := 1) okt (by unfold Sm; decide)).mono (by rw [List.length_take]; omega)
      obtain ⟨sa, sb, sc, sd⟩ := ms
      have po := ohm_sm (hok.at_ hpc)
      have ht' := sm _ _ ht
      rw [f1, f2]
      generalize (r.take i).foldl stepM m1 = m at *
      generalize (r.take i).foldl stepS 1 = sc0 at *
      refine ⟨t, _, rfl, SqT.of ht', rfl, _, _, rfl, _, _, rfl, rfl, ?_⟩
      refine ⟨_, rfl, rfl, _, rfl, ite2 (fun e => ?_) (fun e => ?_)⟩
      · have r1 : pc.1 = true := wd_inj (r' := true) (V.str.inj (of_decide_eq_true e))
        unfold stepM stepS
        rw [if_pos r1, if_pos r1]
        exact ⟨_, rfl, _, rfl, _, _, rfl, rfl, mx sa po, _, rfl, _, _, rfl, rfl, _, rfl, _, rfl, _, _, rfl, rfl, mx sc po, _, rfl, _, _, rfl, rfl, _, _, rfl, sm, _, _, rfl⟩
      · have r1 : ¬ pc.1 = true := fun z => e (decide_eq_true (by rw [z]; rfl))
        unfold stepM stepS
        rw [if_neg r1, if_neg r1]
        refine ⟨_, rfl, _, rfl, _, _, rfl, rfl, mx sa po, _, rfl, _, _, rfl, rfl, _, rfl, _, rfl, _, _, rfl, rfl, mx sb po, _, rfl, _, rfl, _, _, rfl, rfl, mx sc po, _, rfl, _, _, rfl, rfl, _, rfl, _, rfl, _, _, rfl, rfl, mx sd po, (by show 4 ≤ sizeLine; decide), fun p1 hp1 => ⟨p1, _, rfl, SqT.of upd_same, rfl, _, _, rfl, _, _, rfl, _, _, rfl, _, _, rfl, rfl, ?_⟩⟩
        exact ⟨_, rfl, _, rfl, _, _, rfl, rfl, mx ss po, sm.trans (same_upd hp1), _, _, rfl⟩
    · rintro σ H' ⟨sm, v1, v2, rfl⟩
      rw [hw.1, List.take_length]
      refine ⟨_, rfl, _, rfl, _, rfl, _, rfl, (by show 4 ≤ sizeLine; decide), fun m hm => ⟨_, rfl, (by show 2 ≤ sizeLine; decide), fun p hp => ?_⟩⟩
      have s1 := same_upd (o := .tup (MatT (matR r))) hm
      exact k _ p m ((sm.trans s1).trans (same_upd hp)) upd_same (same_upd hp _ _ upd_same) (sm.free (s1.free hp)) (sm.free hm)
abbrev s_shown_before : Stmt := top 38
theorem sc_shown_before : FnScope ["matrix", "pair", "a", "b", "c", "d", "top", "bottom"] ["matrix", "pair"] (defScope s_shown_before) := ⟨rfl, rfl, rfl, by decide +kernel, rfl, by decide +kernel, by decide +kernel⟩

theorem ok_shown {f : Addr} {fd : FuncData} (F : Fun K "shown_before" "shown_before" s_shown_before f fd) : FnOk P w K mg base CX0 1 f fd ["matrix", "pair"] spShown := by
  refine F.ok sc_shown_before (fun vs H Q E h => ?_) (fun cdv A outer s H vs Q E hr h => ?_)
  · obtain ⟨a, b, m, e, rfl, _⟩ := h
    rfl
  · obtain ⟨a, b, m, e, rfl, ha, hb, ⟨sa, sb, sc, sd⟩, s1, s2, k⟩ := h
    refine ⟨_, (pss_cons (ps_asg (pv 0) (pg_tup rfl (pgs_cons (pg_name (i := 2) sc_shown_before.nd rfl (.inl rfl)) (pgs_cons (pg_name (i := 3) sc_shown_before.nd rfl (.inl rfl)) (pgs_cons (pg_name (i := 4) sc_shown_before.nd rfl (.inl rfl)) (pgs_cons (pg_name (i := 5) sc_shown_before.nd rfl (.inl rfl)) pgs_nil))))))
      (pss_cons (ps_asg (pv 1) (pg_tup rfl (pgs_cons (pg_name (i := 6) sc_shown_before.nd rfl (.inl rfl)) (pgs_cons (pg_name (i := 7) sc_shown_before.nd rfl (.inl rfl)) pgs_nil))))
      (pss_one (ps_ret (pe_tup (pa_cons (pe_op op_add (pe_op op_mulX (pv 2) (pv 6)) (pe_op op_mulX (pv 3) (pv 7))) (pa_cons (pe_op op_add (pe_op op_mulX (pv 4) (pv 6)) (pe_op op_mulX (pv 5) (pv 7))) pa_nil))))))), ?_⟩
    refine ⟨_, rfl, a, _, rfl, SqT.of ha, rfl, _, _, rfl, _, _, rfl, _, _, rfl, _, _, rfl, rfl, ?_⟩
    refine ⟨_, rfl, b, _, rfl, SqT.of hb, rfl, _, _, rfl, _, _, rfl, rfl, ?_⟩
    refine ⟨_, rfl, _, rfl, _, _, rfl, rfl, mx sa s1, _, rfl, _, rfl, _, _, rfl, rfl, mx sb s2, _, _, rfl, rfl, _, rfl, _, rfl, _, _, rfl, rfl, mx sc s1, _, rfl, _, rfl, _, _, rfl, rfl, mx sd s2, _, _, rfl, rfl, (by show 2 ≤ sizeLine; decide), fun p hp => ?_⟩
    exact k _ p (same_upd hp) hp upd_same
abbrev s_piece_text : Stmt := top 40
theorem sc_piece_text : FnScope ["word", "ohms"] ["word", "ohms"] (defScope s_piece_text) := ⟨rfl, rfl, rfl, by decide +kernel, rfl, by decide +kernel, by decide +kernel⟩

theorem ok_ptx {f : Addr} {fd : FuncData} (F : Fun K "piece_text" "piece_text" s_piece_text f fd) : FnOk P w K mg base CX0 1 f fd ["word", "ohms"] spPtx := by
  refine F.ok sc_piece_text (fun vs H Q E h => ?_) (fun cdv A outer s H vs Q E hr h => ?_)
  · obtain ⟨p, rfl, _⟩ := h
    rfl
  · obtain ⟨p, rfl, hp, k⟩ := h
    refine ⟨_, (pss_one (ps_ret (pe_joined (PJ.cons (pe_fmt (pv 0)) (PJ.cons pe_str (PJ.cons (pe_fmt (pv 1)) PJ.nil)))))), ?_⟩
    have ww : OkT 4 (wd p.1) := by
      unfold wd
      split
      · exact OkT.of "rail"
      · exact OkT.of "rung"
    have oh : Sm 200 p.2 := (ohm_sm hp).mono (by decide)
    have o1 : OkT 4 (Str.empty ++ wd p.1) := by
      rw [Str.empty_append]
      exact ww
    have o2 := o1.app (OkT.of " ")
    have o3 := o2.app (ts_ok oh)
    refine ⟨_, rfl, .inl ⟨_, rfl, ww.fits, _, rfl, o1.fits, _, rfl, o2.fits, _, rfl, .inr ⟨_, rfl, Nat.lt_trans (log_sm (by decide) oh) (by decide), _, rfl, o3.fits, ?_⟩⟩⟩
    show Q (.str (((Str.empty ++ wd p.1) ++ Str.ofString " ") ++ ts p.2)) H
    rw [Str.empty_append]
    exact k
abbrev s_piece_with_text : Stmt := top 41
theorem sc_piece_with_text : FnScope ["text", "word", "ohms"] ["text"] (defScope s_piece_with_text) := ⟨rfl, rfl, rfl, by decide +kernel, rfl, by decide +kernel, by decide +kernel⟩

theorem ok_pwt {f : Addr} {fd : FuncData} (F : Fun K "piece_with_text" "piece_with_text" s_piece_with_text f fd) (T : Txt3 K mg tG t1 t2 t3 aO aW J C) (D_piece_text : Df P w K mg base 1 "piece_text" ["word", "ohms"] spPtx) : FnOk P w K mg base CX0 2 f fd ["text"] spPwt := by
  refine F.ok sc_piece_with_text (fun vs H Q E h => ?_) (fun cdv A outer s H vs Q E hr h => ?_)
  · obtain ⟨p, rfl, _⟩ := h
    rfl
  · obtain ⟨p, rfl, hp, k⟩ := h
    refine ⟨_, (pss_cons (ps_for PassesOwn.never rfl (pi_tup (pe_glob (v := .ref aW) rfl T.mgW rfl)) (pg_name (i := 1) sc_piece_with_text.nd rfl (.inl rfl)) (pss_one (ps_for PassesOwn.never rfl (pi_range2 rfl T.range (pa_cons pe_int (pa_cons (pe_op op_add (pe_glob (v := .int 12) rfl T.mgOh ⟨_, rfl⟩) pe_int) pa_nil))) (pg_name (i := 2) sc_piece_with_text.nd rfl (.inl rfl)) (pss_one (ps_if (pt_cmpR op_eq (pv 0) (pe_df D_piece_text (hr.mono (by decide)) (by rfl) (pa_cons (pv 1) (pa_cons (pv 2) pa_nil))) (nomark _)) (pss_one (ps_ret (pe_tup (pa_cons (pv 1) (pa_cons (pv 2) pa_nil))))) pss_nil)))))
      (pss_one (ps_ret pe_non))), ?_⟩
    have hW : SqT K H aW [.str (Str.ofString "rail"), .str (Str.ofString "rung")] := .inr T.wds
    refine ⟨aW, rfl, ⟨_, hW⟩, ?_⟩
    refine for_tup (K := K) (a := aW) (xs := [.str (Str.ofString "rail"), .str (Str.ofString "rung")]) (fun i σ H' => H' = H ∧ (∃ v1 v2, σ = [some (.str (ptx p)), v1, v2]) ∧ (1 ≤ i → p.1 = false) ∧ (2 ≤ i → False)) ⟨rfl, ⟨none, none, rfl⟩, by omega, by omega⟩ (fun i σ H' _ h => by rw [h.1]; exact hW) ?_ ?_
    · rintro i x σ H' hx ⟨rfl, ⟨v1, v2, rfl⟩, i1, i2⟩
      obtain ⟨r, rfl, hr1, hr2⟩ : ∃ r : Bool, x = .str (wd r) ∧ (p.1 ≠ r → (1 ≤ i + 1 → p.1 = false)) ∧ (p.1 ≠ r → (2 ≤ i + 1 → False)) := by
        match i, hx with
        | 0, hx =>
          cases hx
          refine ⟨true, rfl, fun z _ => by simpa using z, fun z y => absurd y (by decide)⟩
        | 1, hx =>
          cases hx
          exact ⟨false, rfl, fun z _ => i1 (by decide), fun z _ => z (i1 (by decide))⟩
      refine ⟨_, _, rfl, rfl, 1, 13, rfl, ⟨by decide, by decide, by decide, by decide⟩, ?_⟩
      refine for_range (lo := 1) (n := Int.toNat (13 - 1)) (fun j σ H'' => H'' = H' ∧ (∃ v2, σ = [some (.str (ptx p)), some (.str (wd r)), v2]) ∧ (p.1 = r → (j : Int) < p.2)) ⟨rfl, ⟨_, rfl⟩, fun _ => by have := hp.1; omega⟩ ?_ ?_
      · rintro j σ H'' hj ⟨rfl, ⟨v2, rfl⟩, hjp⟩
        have hj12 : j < 12 := hj
        have hq : PcOk (r, 1 + (j : Int)) := ⟨by dsimp; omega, by dsimp; omega⟩
        refine ⟨_, rfl, _, rfl, _, rfl, (r, 1 + (j : Int)), rfl, hq, rfl, _, rfl, ite2 (fun e => ?_) (fun e => ?_)⟩
        · have e1 : p = (r, 1 + (j : Int)) := ptx_inj hp hq (V.str.inj (of_decide_eq_true e))
          refine ⟨_, rfl, _, rfl, (by show 2 ≤ sizeLine; decide), fun t ht => ?_⟩
          refine k _ t (same_upd ht) ht ?_
          rw [upd_same, e1]
        · refine ⟨rfl, ⟨_, rfl⟩, fun z => ?_⟩
          have := hjp z
          rcases Int.lt_or_le ((j : Int) + 1) p.2 with y | y
          · omega
          · refine absurd (decide_eq_true ?_) e
            have e2 : p = (r, 1 + (j : Int)) := by
              ext
              · exact z
              · show p.2 = 1 + (j : Int)
                omega
            rw [← e2]
      · rintro σ H'' ⟨rfl, ⟨v2, rfl⟩, hjp⟩
        have ne : p.1 ≠ r := fun z => by
          have h1 : (12 : Int) < p.2 := hjp z
          have := hp.2
          omega
        exact ⟨rfl, ⟨_, _, rfl⟩, hr1 ne, hr2 ne⟩
    · rintro σ H' ⟨rfl, _, _, z⟩
      exact (z (by decide)).elim
end
end RL

set_option maxHeartbeats 1000000
namespace RL
open PySem L2 PySem.Spec PyProof.Rows
def star1 (sp : Sp) : Sp := fun vs H Q E => ∃ ws rest, vs = ws ++ rest ∧ ws.length = 1 ∧ rest.length ≤ sizeLine ∧ ∀ p, H p = Option.none → sp (ws ++ [V.ref p]) (L2.upd H p (.tup rest)) Q E
theorem okStar {P : Program} {w : World} {K : PySem.W.Frag} {mg : Str → Option Value} {base : Heap} {x qual : Str} {st : Stmt} {f : Addr} {fd : FuncData} {N : List Str} {p1 pv : Str} {k : Nat} {sp : Sp} (F : Fun K x qual st f fd) (S : FnScope N ([p1] ++ [pv]) (defScope st))
    (hb : ∀ (kV doc pm cdv ct : Value) (an : Option Addr) (us rest : List Value), us.length = [p1].length → bindArgs (PySem.W.fnOf x qual (defArgs st) (defBody st) (defScope st) .none kV doc pm an cdv ct) ⟨us ++ rest, []⟩ = (newTuple rest >>= fun t => pure ([p1].zip us ++ [(pv, t)])))
    (hbody : ∀ (cdv : Value) (A : Around) (outer : List Env) (s : Shared) (H : Hp) (vs : List V) (Q : VK) (E : XK), Room k (A.deeper (envOfC qual (defScope st) s.heap.objs.size f cdv)) → sp vs H Q E →
      ∃ t, PSs (cxOf CX0 P w K mg base N qual (defScope st) f cdv A outer s H E).nox (defBody st) t ∧ t { nx := fun _ H' => Q .non H', rt := Q } (start N vs) H) : FnR P w K mg base CX0 (k + 1) f (star1 sp) := by
  obtain ⟨oc, od, kV, doc, pm, an, cdv, ct, osl, rfl, lk, hcd⟩ := F.ex
  exact StX.fn_star (ps := [p1]) lk hcd S StX.cxUp_none (hb kV doc pm cdv ct an) fun A outer s H vs Q E hr hsp => by
    obtain ⟨t, h, q⟩ := hbody cdv A outer s H vs Q E hr hsp
    exact ⟨t, h.nox, q⟩
/-! ### a pattern in the heap -/
def FrAt (H : Hp) (a : Addr) (x s : Int) : Prop := H a = some (.tup [.int (low (x, s)).1, .int (low (x, s)).2])
def PF (q m f : Addr) (s : Int) : List (Str × V) := [("row", .ref q), ("matrix", .ref m), ("scale", .int s), ("four", .ref f)]
def PatAt (C : Addr) (H : Hp) (x : Addr) (r : List Pc) : Prop := ∃ (dx q m f : Addr) (ws : List V) (f1 f2 f3 f4 : Addr), H x = some (.ins C dx (PF q m f (sclR r))) ∧ H q = some (.tup ws) ∧ PiecesAt H ws r ∧ H m = some (.tup (MatT (matR r))) ∧
  H f = some (.tup [.ref f1, .ref f2, .ref f3, .ref f4]) ∧ FrAt H f1 (matR r).a (sclR r) ∧ FrAt H f2 (matR r).b (sclR r) ∧ FrAt H f3 (matR r).c (sclR r) ∧ FrAt H f4 (matR r).d (sclR r)
theorem PatAt.same {C : Addr} {H H' : Hp} {x : Addr} {r : List Pc} (h : PatAt C H x r) (s : Same H H') : PatAt C H' x r := by
  obtain ⟨dx, q, m, f, ws, f1, f2, f3, f4, h1, h2, h3, h4, h5, h6, h7, h8, h9⟩ := h
  exact ⟨dx, q, m, f, ws, f1, f2, f3, f4, s _ _ h1, s _ _ h2, h3.same s, s _ _ h4, s _ _ h5, s _ _ h6, s _ _ h7, s _ _ h8, s _ _ h9⟩
theorem PatAt.but {C : Addr} {H H' : Hp} {x c : Addr} {r : List Pc} (h : PatAt C H x r) (hc : CupAt c H) (s : But c H H') : PatAt C H' x r := by
  obtain ⟨dx, q, m, f, ws, f1, f2, f3, f4, h1, h2, h3, h4, h5, h6, h7, h8, h9⟩ := h
  obtain ⟨u, v, hc, _⟩ := hc
  have st : ∀ {a : Addr} {xs : List V}, H a = some (.tup xs) → H' a = some (.tup xs) := fun {a xs} e => s _ _ (ne_of e hc (by intro z; cases z)) e
  exact ⟨dx, q, m, f, ws, f1, f2, f3, f4, s _ _ (ne_of h1 hc (by intro z; cases z)) h1, st h2, h3.but s (fun xs z => by rw [hc] at z; cases z), st h4, st h5, st h6, st h7, st h8, st h9⟩
theorem str_ne {a b : Str} (h : (a == b) = false) : ¬ a = b := fun z => by
  rw [z] at h
  simp at h
theorem nrm : (("row" : Str) == ("matrix" : Str)) = false := by decide +kernel
theorem nrf : (("row" : Str) == ("four" : Str)) = false := by decide +kernel
theorem nmf : (("matrix" : Str) == ("four" : Str)) = false := by decide +kernel
theorem nmr : (("matrix" : Str) == ("row" : Str)) = false := by decide +kernel
theorem nfr : (("four" : Str) == ("row" : Str)) = false := by decide +kernel
theorem nfm : (("four" : Str) == ("matrix" : Str)) = false := by decide +kernel
theorem wrs : (("row" : Str) == ("scale" : Str)) = false := by decide +kernel
theorem wms : (("matrix" : Str) == ("scale" : Str)) = false := by decide +kernel
theorem wsf : (("scale" : Str) == ("four" : Str)) = false := by decide +kernel
theorem wsr : (("scale" : Str) == ("row" : Str)) = false := by decide +kernel
theorem wsm : (("scale" : Str) == ("matrix" : Str)) = false := by decide +kernel
theorem wfs : (("four" : Str) == ("scale" : Str)) = false := by decide +kernel
theorem putScl (a b v : V) : putF "scale" v [("row", a), ("matrix", b)] = ([("row", a), ("matrix", b), ("scale", v)] : List (Str × V)) := by
  unfold putF
  rw [if_neg (str_ne wrs)]
  unfold putF
  rw [if_neg (str_ne wms)]
  rfl
theorem putM (a v : V) : putF "matrix" v [("row", a)] = ([("row", a), ("matrix", v)] : List (Str × V)) := by
  unfold putF
  rw [if_neg (str_ne nrm)]
  rfl
theorem putFour (a b c v : V) : putF "four" v [("row", a), ("matrix", b), ("scale", c)] = ([("row", a), ("matrix", b), ("scale", c), ("four", v)] : List (Str × V)) := by
  unfold putF
  rw [if_neg (str_ne nrf)]
  unfold putF
  rw [if_neg (str_ne nmf)]
  unfold putF
  rw [if_neg (str_ne wsf)]
  rfl
theorem lkM2 (a b c : V) : ([("row", a), ("matrix", b), ("scale", c)] : List (Str × V)).lookup ("matrix" : Str) = some b := by
  simp [List.lookup, nmr]
theorem lkS2 (a b c : V) : ([("row", a), ("matrix", b), ("scale", c)] : List (Str × V)).lookup ("scale" : Str) = some c := by
  simp [List.lookup, wsr, wsm]
theorem lkR (q m f : Addr) {s : Int} : (PF q m f s).lookup ("row" : Str) = some (.ref q) := by
  simp [PF, List.lookup]
theorem lkM (q m f : Addr) {s : Int} : (PF q m f s).lookup ("matrix" : Str) = some (.ref m) := by
  simp [PF, List.lookup, nmr]
theorem lkF (q m f : Addr) {s : Int} : (PF q m f s).lookup ("four" : Str) = some (.ref f) := by
  simp [PF, List.lookup, nfr, nfm, wfs]
def spPI (C J : Addr) : Sp := fun vs H Q _ => ∃ (x dx p : Addr) (r : List Pc), vs = [.ref x, .ref p] ∧ H x = some (.ins C dx []) ∧ RowOk r ∧ 1 ≤ r.length ∧ r.length ≤ 8 ∧
  ((∃ j dj q ws, H p = some (.tup [.ref j]) ∧ H j = some (.ins J dj [("row", .ref q)]) ∧ H q = some (.tup ws) ∧ PiecesAt H ws r) ∨ (∃ ws, H p = some (.tup ws) ∧ PiecesAt H ws r ∧ r.length ≤ 4)) ∧
  ∀ H', But x H H' → PatAt C H' x r → Q .non H'
def LoadAt (H : Hp) (v : V) (e : Int × Int) : Prop := (∃ i, v = .int i ∧ 0 ≤ i ∧ i ≤ 1000000000000 ∧ e = (i, 1)) ∨ (∃ p, v = .ref p ∧ H p = some (.tup [.int e.1, .int e.2]) ∧ ResP e.1 e.2)
theorem LoadAt.pos {H : Hp} {v : V} {e : Int × Int} (h : LoadAt H v e) : Pos2 e := by
  rcases h with ⟨i, _, h1, h2, rfl⟩ | ⟨p, _, _, h⟩
  · exact ⟨h1, by show (0 : Int) ≤ 1; decide, .inr (by show (0 : Int) < 1; decide)⟩
  · rcases h with ⟨h1, _, h2, _⟩ | ⟨h1, h2⟩
    · exact ⟨h1, by omega, .inr (by omega)⟩
    · exact ⟨by omega, by omega, .inl (by omega)⟩
theorem sm_lt {n : Nat} {x : Int} (h0 : 0 ≤ x) (h : x < 2 ^ n) : Sm n x := by
  unfold Sm
  have e : ((2 ^ n : Nat) : Int) = 2 ^ n := by rw [Int.natCast_pow]; rfl
  omega
theorem LoadAt.sm {H : Hp} {v : V} {e : Int × Int} (h : LoadAt H v e) : Sm 41 e.1 ∧ Sm 41 e.2 := by
  have k : ∀ z : Int, 0 ≤ z → z ≤ 1000000000000 → Sm 41 z := fun z h1 h2 => sm_lt h1 (by
    have e : (2 : Int) ^ 41 = 2199023255552 := by decide
    rw [e]
    omega)
  rcases h with ⟨i, _, h1, h2, rfl⟩ | ⟨p, _, _, h⟩
  · exact ⟨k _ h1 h2, k 1 (by decide) (by decide)⟩
  · rcases h with ⟨h1, h2, h3, h4⟩ | ⟨h1, h2⟩
    · exact ⟨k _ h1 h2, k _ (by omega) h4⟩
    · exact ⟨k _ (by omega) (by omega), k _ (by omega) (by omega)⟩
def spCall (C : Addr) : Sp := fun vs H Q _ => ∃ (x : Addr) (v : V) (r : List Pc) (e : Int × Int), vs = [.ref x, v] ∧ PatAt C H x r ∧ RowOk r ∧ r.length ≤ 8 ∧ LoadAt H v e ∧
  ∀ H' p, Same H H' → H p = none → H' p = some (.tup [.int (low ((matR r).app e)).1, .int (low ((matR r).app e)).2]) → Q (.ref p) H'
def spNum (C : Addr) : Sp := fun vs H Q _ => ∃ (x dx q m f : Addr) (s : Int), vs = [.ref x] ∧ H x = some (.ins C dx (PF q m f s)) ∧ Q (.ref f) H
def spAdd (C : Addr) : Sp := fun vs H Q _ => ∃ (x y : Addr) (r r' : List Pc), vs = [.ref x, .ref y] ∧ PatAt C H x r ∧ PatAt C H y r' ∧ RowOk r ∧ RowOk r' ∧ 1 ≤ r.length ∧ 1 ≤ r'.length ∧ r.length + r'.length ≤ 8 ∧
  ∀ H' z, Same H H' → H z = none → PatAt C H' z (r ++ r') → Q (.ref z) H'
def spTurn (C : Addr) : Sp := fun vs H Q _ => ∃ (x : Addr) (r : List Pc), vs = [.ref x] ∧ PatAt C H x r ∧ RowOk r ∧ 1 ≤ r.length ∧ r.length ≤ 8 ∧ ∀ H' z, Same H H' → H z = none → PatAt C H' z r.reverse → Q (.ref z) H'
def rowTx (r : List Pc) : Str := Txt.join (Str.ofString ", ") (r.map ptx)
def spRead (C : Addr) : Sp := fun vs H Q _ => ∃ r : List Pc, vs = [.str (rowTx r)] ∧ RowOk r ∧ 1 ≤ r.length ∧ r.length ≤ 8 ∧ ∀ H' z, Same H H' → H z = none → PatAt C H' z r → Q (.ref z) H'
structure PatD (P : Program) (w : World) (K : PySem.W.Frag) (mg : Str → Option Value) (base : Heap) (C J f : Addr) : Prop where
  m : Mk K C f
  fn : FnR P w K mg base CX0 5 f (star1 (spPI C J))
structure JoinD (P : Program) (w : World) (K : PySem.W.Frag) (mg : Str → Option Value) (base : Heap) (J f : Addr) (fd : FuncData) : Prop where
  m : Mk K J f
  fn : FnOk P w K mg base CX0 1 f fd ["self", "row"] (spJ J)
  bd : Binds K fd ["self", "row"] []
theorem make_pat {C J : Addr} {H : Hp} {q : Addr} {ws : List V} {r : List Pc} {Q : V → Hp → Prop} (hq : H q = some (.tup ws)) (hw : PiecesAt H ws r) (hok : RowOk r) (l1 : 1 ≤ r.length) (l8 : r.length ≤ 8) (k : ∀ H' z, Same H H' → H z = none → PatAt C H' z r → Q (.ref z) H') :
    ∀ j dj, H j = none → H dj = none → dj ≠ j → spJ J [.ref j, .ref q] (upd (upd H dj (.own j)) j (.ins J dj [])) (fun v H2 => v = .non ∧ ∀ z dz, H2 z = none → H2 dz = none → dz ≠ z →
      star1 (spPI C J) [.ref z, .ref j] (upd (upd H2 dz (.own z)) z (.ins C dz [])) (fun v H3 => v = .non ∧ Q (.ref z) H3) E0) E0 := by
  intro j dj nj ndj nej
  refine ⟨j, dj, .ref q, rfl, upd_same, rfl, fun z dz nz ndz nez => ⟨[.ref z], [.ref j], rfl, rfl, (by show 1 ≤ sizeLine; decide), fun p np => ?_⟩⟩
  -- the heap ahead of the pattern's own
  have s1 : Same H (upd (upd (upd H dj (.own j)) j (.ins J dj [])) j (.ins J dj [("row", .ref q)])) := fun b o e => by
    rw [upd_ne (ne_of_none e nj), upd_ne (ne_of_none e nj), upd_ne (ne_of_none e ndj)]
    exact e
  have hj : (upd (upd (upd H dj (.own j)) j (.ins J dj [])) j (.ins J dj [("row", .ref q)])) j = some (.ins J dj [("row", .ref q)]) := upd_same
  generalize upd (upd (upd H dj (.own j)) j (.ins J dj [])) j (.ins J dj [("row", .ref q)]) = H2 at *
  have s2 : Same H2 (upd (upd H2 dz (.own z)) z (.ins C dz [])) := fun b o e => by
    rw [upd_ne (ne_of_none e nz), upd_ne (ne_of_none e ndz)]
    exact e
  have s3 := s2.trans (same_upd (o := .tup [.ref j]) np)
  have hz : (upd (upd (upd H2 dz (.own z)) z (.ins C dz [])) p (.tup [.ref j])) z = some (.ins C dz []) := by
    rw [upd_ne (ne_of_none (upd_same (H := upd H2 dz (.own z)) (a := z) (o := .ins C dz [])) np), upd_same]
  have s13 := s1.trans s3
  refine ⟨z, dz, p, r, rfl, hz, hok, l1, l8, .inl ⟨j, dj, q, ws, upd_same, s3 _ _ hj, s13 _ _ hq, hw.same s13⟩, fun H' b hP => ⟨rfl, k H' z ?_ (s1.free nz) hP⟩⟩
  intro b' o e
  exact b _ _ (ne_of_none (s1 _ _ e) nz) (s13 _ _ e)
section
variable {P : Program} {w : World} {K : PySem.W.Frag} {mg : Str → Option Value} {base : Heap} {tG t1 t2 t3 : Tok} {aO aW J C fP fJ : Addr} {fdJ : FuncData}
def FrsAt (H : Hp) (vs : List V) (es : List Int) (s : Int) : Prop := vs.length = es.length ∧ ∀ (i : Nat) (e : Int), es[i]? = some e → ∃ t, vs[i]? = some (.ref t) ∧ FrAt H t e s
abbrev s_Pattern_init : Stmt := inClass (top 34) 0
theorem sc_Pattern_init : FnScope ["self", "pieces", "entry"] ["self", "pieces"] (defScope s_Pattern_init) := ⟨rfl, rfl, rfl, by decide +kernel, rfl, by decide +kernel, by decide +kernel⟩

theorem ok_pinit {f : Addr} {fd : FuncData} (F : Fun K "__init__" "Pattern.__init__" s_Pattern_init f fd) (T : Txt3 K mg tG t1 t2 t3 aO aW J C) (D_checked_row : Df P w K mg base 4 "checked_row" ["pieces"] (spChk J)) (D_matrix_and_scale : Df P w K mg base 1 "matrix_and_scale" ["row"] spMat) (D_lowest_terms : Df P w K mg base 2 "lowest_terms" ["top", "bottom"] spLow) :
    FnR P w K mg base CX0 5 f (star1 (spPI C J)) := by
  refine okStar (p1 := "self") (pv := "pieces") F sc_Pattern_init (fun _ _ _ _ _ _ => StX.bind_star1 (B := fun us => bindArgs _ ⟨us, []⟩) (fun _ => rfl) (fun _ _ _ => rfl)) (fun cdv A outer s H vs Q E hr h => ?_)
  obtain ⟨x, dx, p, r, rfl, hx, hok, l1, l8, hp, k⟩ := h
  refine ⟨_, (C8.pss_cut (ps_fld (pv 0) (pe_df D_checked_row (hr.mono (by decide)) (by rfl) (pa_cons (pv 1) pa_nil)) rfl)
      (pss_cons (ps_asg (pe_df D_matrix_and_scale (hr.mono (by decide)) (by rfl) (pa_cons (pe_fld (pv 0) rfl) pa_nil)) (pg_tup rfl (pgs_cons (pg_fld (pv 0)) (pgs_cons (pg_fld (pv 0)) pgs_nil))))
      (pss_one (ps_fld (pv 0) (pe_callTy call_tuple_of (by rfl) T.tuple_ (by decide +kernel) (pa_cons (pe_lc (own := [("entry", 2)]) (g := gName 2) (tt := tYes) rfl sc_Pattern_init.nd (pi_tup (pe_fld (pv 0) rfl)) (blkOk_by (N := ["self", "pieces", "entry"]) (sc := defScope s_Pattern_init) (by decide +kernel)) (fun _ _ _ _ _ => pg_name (i := 2) sc_Pattern_init.nd rfl (Or.inl rfl)) (fun _ _ _ _ _ => pts_nil) (fun _ _ _ _ _ => (pe_df D_lowest_terms (hr.mono (by decide)) (by rfl) (pa_cons (pv 2) (pa_cons (pe_fldK (K := K) (pv 0)) pa_nil))))) pa_nil)) rfl)))), ?_⟩
  -- self.row = ..
  have notT : ∀ {H' : Hp} {fs : List (Str × V)}, H' x = some (.ins C dx fs) → ∀ xs, H' x ≠ some (.tup xs) := fun e xs z => by rw [e] at z; cases z
  refine ⟨fun σ' H' => σ' = [some (.ref x), some (.ref p), none] ∧ ∃ (q : Addr) (ws : List V), But x H H' ∧ H' x = some (.ins C dx [("row", .ref q)]) ∧ H' q = some (.tup ws) ∧ PiecesAt H' ws r, ?_, ?_⟩
  · have set1 : ∀ (H1 : Hp) (q : Addr) (ws : List V), Same H H1 → H1 q = some (.tup ws) → PiecesAt H1 ws r → ∃ (q' : Addr) (ws' : List V), But x H (upd H1 x (.ins C dx [("row", .ref q)])) ∧ (upd H1 x (.ins C dx [("row", .ref q)])) x = some (.ins C dx [("row", .ref q')]) ∧ (upd H1 x (.ins C dx [("row", .ref q)])) q' = some (.tup ws') ∧ PiecesAt (upd H1 x (.ins C dx [("row", .ref q)])) ws' r := fun H1 q ws s1 hq hw => by
      have hx1 := s1 _ _ hx
      have b1 : But x H1 (upd H1 x (.ins C dx [("row", .ref q)])) := But.upd
      exact ⟨q, ws, (But.of s1).trans b1, upd_same, b1 _ _ (ne_of hq hx1 (by intro z; cases z)) hq, hw.but b1 (notT hx1)⟩
    rcases hp with ⟨j, dj, q, ws, h1, h2, h3, h4⟩ | ⟨ws, h1, h2, h3⟩
    · exact ⟨_, rfl, p, rfl, .inl ⟨j, dj, q, h1, h2, _, rfl, x, C, dx, _, rfl, hx, T.cl, T.nRow, (by show 0 < 1000; decide), rfl, set1 H q ws (Same.refl _) h3 h4⟩⟩
    · exact ⟨_, rfl, p, rfl, .inr ⟨ws, r, h1, h2, hok, l1, h3, fun H1 s1 => ⟨_, rfl, x, C, dx, _, rfl, s1 _ _ hx, T.cl, T.nRow, (by show 0 < 1000; decide), rfl, set1 H1 p ws s1 (s1 _ _ h1) (h2.same s1)⟩⟩⟩
  rintro σ' H2 ⟨rfl, q, ws, bb1, hx2, hq2, hw2⟩
  -- self.matrix, scale = ..
  refine ⟨_, rfl, x, C, dx, _, _, rfl, hx2, T.cl, T.nRow, rfl, q, ws, r, rfl, hq2, hw2, hok, l8, fun H3 pm m s3 hpm hm npm nm => ?_⟩
  have hx3 := s3 _ _ hx2
  refine ⟨pm, _, rfl, SqT.of hpm, rfl, _, _, rfl, _, rfl, x, C, dx, _, rfl, hx3, T.cl, T.nMat, (by show 1 < 1000; decide), ?_⟩
  rw [putM]
  have b4 : But x H3 (upd H3 x (.ins C dx [("row", .ref q), ("matrix", .ref m)])) := But.upd
  have hx4 : (upd H3 x (.ins C dx [("row", .ref q), ("matrix", .ref m)])) x = some (.ins C dx [("row", .ref q), ("matrix", .ref m)]) := upd_same
  have tp4 : ∀ {a : Addr} {xs : List V}, H3 a = some (.tup xs) → (upd H3 x (.ins C dx [("row", .ref q), ("matrix", .ref m)])) a = some (.tup xs) := fun {a xs} e => b4 _ _ (ne_of e hx3 (by intro z; cases z)) e
  have hm4 := tp4 hm
  have hq4 := tp4 (s3 _ _ hq2)
  have hw4 := (hw2.same s3).but b4 (notT hx3)
  have bb4 := (bb1.trans (But.of s3)).trans b4
  clear tp4
  generalize upd H3 x (.ins C dx [("row", .ref q), ("matrix", .ref m)]) = H4' at *
  refine ⟨_, _, rfl, _, rfl, x, C, dx, _, rfl, hx4, T.cl, T.nScl, (by show 2 < 1000; decide), rfl, ?_⟩
  rw [putScl]
  have b4' : But x H4' (upd H4' x (.ins C dx [("row", .ref q), ("matrix", .ref m), ("scale", .int (sclR r))])) := But.upd
  have hm4 := b4' _ _ (ne_of hm4 hx4 (by intro z; cases z)) hm4
  have hq4 := b4' _ _ (ne_of hq4 hx4 (by intro z; cases z)) hq4
  have hw4 := hw4.but b4' (notT hx4)
  have bb4 := bb4.trans b4'
  have hx4 : (upd H4' x (.ins C dx [("row", .ref q), ("matrix", .ref m), ("scale", .int (sclR r))])) x = some (.ins C dx [("row", .ref q), ("matrix", .ref m), ("scale", .int (sclR r))]) := upd_same
  clear b4 b4'
  generalize upd H4' x (.ins C dx [("row", .ref q), ("matrix", .ref m), ("scale", .int (sclR r))]) = H4 at *
  -- self.four = ..
  have sp := sclR_pos hok
  have ss := sclR_sm hok l8
  obtain ⟨ma, mb, mc, md, _⟩ := matR_ok hok
  obtain ⟨sa, sb, sc, sd⟩ := matR_sm hok l8
  refine ⟨_, rfl, x, C, dx, _, _, rfl, hx4, T.cl, T.nMat, lkM2 _ _ _, m, rfl, ⟨_, SqT.of hm4⟩, fun D hD => ?_⟩
  refine lc_tup (K := K) (a := m) (xs := MatT (matR r)) (fun i H' => But D H4 H' ∧ ∃ vs, H' D = some (.lst vs) ∧ FrsAt H' vs ([(matR r).a, (matR r).b, (matR r).c, (matR r).d].take i) (sclR r)) ⟨But.upd, [], upd_same, rfl, fun i e z => by simp at z⟩ (fun i H' _ h => SqT.of (h.1 _ _ (ne_of_none hm4 hD) hm4)) ?_ ?_
  · rintro i y H' hi ⟨bD, vs, hDi, hF⟩
    refine ⟨rfl, ?_⟩
    unfold tYes
    refine iteT ?_
    obtain ⟨z, rfl, z0, zs, ez, hi4⟩ : ∃ z : Int, y = .int z ∧ 0 ≤ z ∧ Sm 41 z ∧ [(matR r).a, (matR r).b, (matR r).c, (matR r).d].take (i + 1) = [(matR r).a, (matR r).b, (matR r).c, (matR r).d].take i ++ [z] ∧ i < 4 := by
      match i, hi with
      | 0, hi => cases hi; exact ⟨_, rfl, ma, sa, rfl, by decide⟩
      | 1, hi => cases hi; exact ⟨_, rfl, mb, sb, rfl, by decide⟩
      | 2, hi => cases hi; exact ⟨_, rfl, mc, sc, rfl, by decide⟩
      | 3, hi => cases hi; exact ⟨_, rfl, md, sd, rfl, by decide⟩
    have lv : vs.length = i := by
      rw [hF.1, List.length_take]
      show min i 4 = i
      omega
    refine ⟨_, rfl, _, rfl, x, C, dx, _, _, rfl, bD _ _ (ne_of_none hx4 hD) hx4, T.cl, T.nScl, lkS2 _ _ _, z, sclR r, rfl, ⟨z0, Int.le_of_lt sp, .inr sp⟩, zs.mono (by decide), ss.mono (by decide), fun H5 t s5 nt ht => ?_⟩
    have hD5 := s5 _ _ hDi
    refine ⟨vs, hD5, small1000 (by omega), ?_, vs ++ [.ref t], upd_same, ?_⟩
    · intro b o nb e
      rw [upd_ne nb]
      exact s5 _ _ (bD _ _ nb e)
    · rw [ez]
      refine ⟨by rw [List.length_append, List.length_append, hF.1]; rfl, fun j e hj => ?_⟩
      have up : ∀ {a : Addr} {xs : List V}, H5 a = some (.tup xs) → (upd H5 D (.lst (vs ++ [.ref t]))) a = some (.tup xs) := fun {a xs} e => by
        rw [upd_ne (ne_of e hD5 (by intro z; cases z))]
        exact e
      by_cases hji : j < ([(matR r).a, (matR r).b, (matR r).c, (matR r).d].take i).length
      · rw [List.getElem?_append_left hji] at hj
        obtain ⟨u, hu, hf⟩ := hF.2 j e hj
        refine ⟨u, ?_, up (s5 _ _ hf)⟩
        rw [List.getElem?_append_left (by rw [hF.1]; exact hji)]
        exact hu
      · rw [List.getElem?_append_right (by omega)] at hj
        have j0 : j - ([(matR r).a, (matR r).b, (matR r).c, (matR r).d].take i).length = 0 := by
          have := (List.getElem?_eq_some_iff.mp hj).1
          simp at this
          rw [List.length_take] at hji ⊢
          have e4 : ([(matR r).a, (matR r).b, (matR r).c, (matR r).d] : List Int).length = 4 := rfl
          omega
        rw [j0] at hj
        cases hj
        refine ⟨t, ?_, up ht⟩
        rw [List.getElem?_append_right (by rw [hF.1]; omega), hF.1, j0]
        rfl
  · rintro H' ⟨bD, vs, hDn, hF⟩
    have sD : Same H4 H' := fun b o e => bD _ _ (ne_of_none e hD) e
    refine ⟨D, _, rfl, .inl ⟨SqL.of hDn, fun l hl => ?_⟩⟩
    have s6 := sD.trans (same_upd (o := .tup vs) hl)
    have hx6 := s6 _ _ hx4
    refine ⟨_, rfl, x, C, dx, _, rfl, hx6, T.cl, T.nFour, (by show 3 < 1000; decide), ?_⟩
    rw [putFour]
    have b7 : But x (upd H' l (.tup vs)) (upd (upd H' l (.tup vs)) x (.ins C dx (PF q m l (sclR r)))) := But.upd
    have tp : ∀ {a : Addr} {xs : List V}, (upd H' l (.tup vs)) a = some (.tup xs) → (upd (upd H' l (.tup vs)) x (.ins C dx (PF q m l (sclR r)))) a = some (.tup xs) := fun {a xs} e => b7 _ _ (ne_of e hx6 (by intro z; cases z)) e
    have hF' : FrsAt H' vs [(matR r).a, (matR r).b, (matR r).c, (matR r).d] (sclR r) := hF
    obtain ⟨g1, e1, a1⟩ := hF'.2 0 _ rfl
    obtain ⟨g2, e2, a2⟩ := hF'.2 1 _ rfl
    obtain ⟨g3, e3, a3⟩ := hF'.2 2 _ rfl
    obtain ⟨g4, e4, a4⟩ := hF'.2 3 _ rfl
    have ev : vs = [.ref g1, .ref g2, .ref g3, .ref g4] := by
      match vs, hF'.1, e1, e2, e3, e4 with
      | [_, _, _, _], _, e1, e2, e3, e4 =>
        cases e1
        cases e2
        cases e3
        cases e4
        rfl
    subst ev
    have sl := same_upd (o := .tup [.ref g1, .ref g2, .ref g3, .ref g4]) hl
    exact k _ ((bb4.trans (But.of s6)).trans b7) ⟨dx, q, m, l, ws, g1, g2, g3, g4, upd_same, tp (s6 _ _ hq4), (hw4.same s6).but b7 (notT hx6), tp (s6 _ _ hm4), tp upd_same, tp (sl _ _ a1), tp (sl _ _ a2), tp (sl _ _ a3), tp (sl _ _ a4)⟩
end
end RL

set_option maxHeartbeats 1000000
namespace RL
open PySem L2 PySem.Spec PyProof.Rows
theorem PiecesAt.app {H : Hp} {vs vs' : List V} {r r' : List Pc} (h : PiecesAt H vs r) (h' : PiecesAt H vs' r') : PiecesAt H (vs ++ vs') (r ++ r') := by
  refine ⟨by rw [List.length_append, List.length_append, h.1, h'.1], fun i p hp => ?_⟩
  by_cases hi : i < r.length
  · rw [List.getElem?_append_left hi] at hp
    obtain ⟨v, hv, q⟩ := h.2 _ p hp
    exact ⟨v, by rw [List.getElem?_append_left (by rw [h.1]; exact hi)]; exact hv, q⟩
  · rw [List.getElem?_append_right (by omega)] at hp
    obtain ⟨v, hv, q⟩ := h'.2 _ p hp
    exact ⟨v, by rw [List.getElem?_append_right (by rw [h.1]; omega), h.1]; exact hv, q⟩
theorem parts_split {r : List Pc} (hok : RowOk r) (l1 : 1 ≤ r.length) : Txt.split (rowTx r) (Str.ofString ", ") = r.map ptx := by
  refine TL.split_join (s := 44) (S := [32]) (by decide +kernel) (by decide +kernel) (fun z => ?_) (fun p hp => ?_)
  · have := congrArg List.length z
    rw [List.length_map] at this
    have e0 : ([] : List Str).length = 0 := rfl
    omega
  · obtain ⟨q, hq, rfl⟩ := List.mem_map.mp hp
    exact ptx_free (hok q hq)
theorem join_len (y : Str) : ∀ l : List Str, (Str.join y l).length ≤ (l.map (·.length)).sum + l.length * y.length
  | [] => by
    show (Str.join y []).length ≤ _
    exact Nat.zero_le _
  | [x] => by
    show x.length ≤ _
    simp
  | x :: z :: l => by
    have ih := join_len y (z :: l)
    show (x ++ y ++ Str.join y (z :: l)).length ≤ _
    rw [Str.length_append, Str.length_append]
    simp only [List.map_cons, List.sum_cons, List.length_cons] at ih ⊢
    have : (l.length + 1 + 1) * y.length = (l.length + 1) * y.length + y.length := Nat.succ_mul _ _
    omega
theorem sum_len {r : List Pc} (hok : RowOk r) : ((r.map ptx).map (·.length)).sum ≤ 7 * r.length := by
  induction r with
  | nil => exact Nat.le_refl _
  | cons p r ih =>
    have h1 := ih hok.tail
    have h2 := ptx_len hok.head
    simp only [List.map_cons, List.sum_cons, List.length_cons]
    omega
theorem rowTx_len {r : List Pc} (hok : RowOk r) (l8 : r.length ≤ 8) : (rowTx r).length ≤ 100 := by
  unfold rowTx
  rw [TL.join_eq]
  have h1 := join_len (Str.ofString ", ") (r.map ptx)
  have h2 := sum_len hok
  rw [List.length_map] at h1
  have h3 : (Str.ofString ", ").length = 2 := by decide +kernel
  rw [h3] at h1
  omega
theorem eqv_none_tup (xs : List PyData) : PyData.eqv (.tuple xs) .none = false := by simp [PyData.eqv]
/-! ### what the class has, as its users see it -/
structure OwC (P : Program) (w : World) (K : PySem.W.Frag) (mg : Str → Option Value) (base : Heap) (C g : Addr) (fd : FuncData) : Prop where
  co : StX.CallO K C g
  ok : FnOk P w K mg base CX0 4 g fd ["self", "load"] (spCall C)
  fr : FnR P w K mg base CX0 4 g (spCall C)
  kb : ∀ (s : Shared) (u v : Value), K.In s.heap → BindsTo s fd ⟨[u], [("load", v)]⟩ [("self", u), ("load", v)]
structure OwA (P : Program) (w : World) (K : PySem.W.Frag) (mg : Str → Option Value) (base : Heap) (C g : Addr) (fd : FuncData) : Prop where
  sf : PySem.W.selfFirst K C = true
  at_ : PySem.W.findIn K (.ref C) (PySem.dunder Operator.Add.info.2) = some (some (.ref g))
  fn : PySem.W.isFn K (.ref g) = true
  ok : FnOk P w K mg base CX0 7 g fd ["self", "other"] (spAdd C)
  b : Binds K fd ["self", "other"] []
structure OwR (P : Program) (w : World) (K : PySem.W.Frag) (mg : Str → Option Value) (base : Heap) (C p g : Addr) (fd : FuncData) : Prop where
  rd : ClX.CRead K C (.type "type")
  sm : SMet K C (.type "type") "read" p g
  ok : FnOk P w K mg base CX0 7 g fd ["text"] (spRead C)
  b : Binds K fd ["text"] []
structure OwT (P : Program) (w : World) (K : PySem.W.Frag) (mg : Str → Option Value) (base : Heap) (C g : Addr) (fd : FuncData) : Prop where
  m : Meth K C "turned" g
  ok : FnOk P w K mg base CX0 7 g fd ["self"] (spTurn C)
  b : Binds K fd ["self"] []
structure OwN (P : Program) (w : World) (K : PySem.W.Frag) (mg : Str → Option Value) (base : Heap) (C p g : Addr) (fd : FuncData) : Prop where
  pr : PropOf K C "numbers" p g
  ok : FnOk P w K mg base CX0 1 g fd ["self"] (spNum C)
  b : Binds K fd ["self"] []
section
variable {P : Program} {w : World} {K : PySem.W.Frag} {mg : Str → Option Value} {base : Heap} {tG t1 t2 t3 : Tok} {aO aW J C fP fJ : Addr} {fdJ : FuncData}
theorem dp_row {H : Hp} {vs : List V} {r : List Pc} (h : PiecesAt H vs r) {q : Addr} (hq : H q = some (.tup vs)) : Dp K H (.ref q) (.tuple (r.map fun p => .tuple [.str (wd p.1), .int p.2])) := by
  refine .tup (SqT.of hq) ?_
  clear hq
  induction r generalizing vs with
  | nil =>
    match vs, h.1 with
    | [], _ => exact .nil
  | cons p r ih =>
    match vs, h.1, h.2 with
    | v :: vs, hl, h2 =>
      obtain ⟨v', hv, t, rfl, ht⟩ := h2 0 p rfl
      cases hv
      exact .cons (.tup (SqT.of ht) (.cons (.str _) (.cons (.int _) .nil))) (ih ⟨by simpa using hl, fun i p hp => h2 (i + 1) p hp⟩)
theorem wd_ok (r : Bool) : PyData.strOk (wd r) = true := by cases r <;> decide +kernel
theorem row_lay : ∀ r : List Pc, PyData.canLayAll0 (r.map fun p => .tuple [.str (wd p.1), .int p.2]) = true
  | [] => rfl
  | p :: r => by simp [PyData.canLayAll0, PyData.canLay0, row_lay r, wd_ok]
theorem row_depth : ∀ r : List Pc, PyData.depthAll (r.map fun p => .tuple [.str (wd p.1), .int p.2]) ≤ 1
  | [] => by simp [PyData.depthAll]
  | p :: r => by
    have h := row_depth r
    simp [PyData.depthAll, PyData.depth]
    omega
theorem sh_row (r : List Pc) : SeqAt.shaped (.tuple (r.map fun p => .tuple [.str (wd p.1), .int p.2])) = true := by
  have h1 := row_lay r
  have h2 := row_depth r
  unfold SeqAt.shaped
  simp [PyData.canLay0, PyData.depth, h1]
  omega
theorem units65 {k : Nat} {A : Around} (r : Room k A) : A.units + 65 < cLine := by
  have := r.un
  omega
abbrev s_Pattern_call : Stmt := inClass (top 34) 1
theorem sc_Pattern_call : FnScope ["self", "load"] ["self", "load"] (defScope s_Pattern_call) := ⟨rfl, rfl, rfl, by decide +kernel, rfl, by decide +kernel, by decide +kernel⟩

theorem ok_call {f : Addr} {fd : FuncData} (F : Fun K "__call__" "Pattern.__call__" s_Pattern_call f fd) (T : Txt3 K mg tG t1 t2 t3 aO aW J C) (D_is_resistance : Df P w K mg base 3 "is_resistance" ["value"] spIsRes) (D_pair_of : Df P w K mg base 2 "pair_of" ["fraction_or_open"] spPairOf) (D_shown_before : Df P w K mg base 1 "shown_before" ["matrix", "pair"] spShown) (D_lowest_pair : Df P w K mg base 3 "lowest_pair" ["fraction_or_open"] spLowP) :
    FnOk P w K mg base CX0 4 f fd ["self", "load"] (spCall C) := by
  refine F.ok sc_Pattern_call (fun vs H Q E h => ?_) (fun cdv A outer s H vs Q E hr h => ?_)
  · obtain ⟨x, v, r, e, rfl, _⟩ := h
    rfl
  · obtain ⟨x, v, r, e, rfl, hP, hok, l8, hL, k⟩ := h
    refine ⟨_, (pss_cons (ps_if (pt_not (pt_val (pe_df D_is_resistance (hr.mono (by decide)) (by rfl) (pa_cons (pv 1) pa_nil)))) (pss_one ps_never) pss_nil)
      (pss_one (ps_ret (pe_df D_lowest_pair (hr.mono (by decide)) (by rfl) (pa_cons (pe_df D_shown_before (hr.mono (by decide)) (by rfl) (pa_cons (pe_fld (pv 0) rfl) (pa_cons (pe_df D_pair_of (hr.mono (by decide)) (by rfl) (pa_cons (pv 1) pa_nil)) pa_nil))) pa_nil))))), ?_⟩
    have ep := hL.pos
    obtain ⟨es1, es2⟩ := hL.sm
    obtain ⟨dx, q, m, f', ws, f1, f2, f3, f4, hx, hq, hw, hm, _⟩ := hP
    have ms := matR_sm hok l8
    have ap := app_pos hok ep
    obtain ⟨as1, as2⟩ := app_sm (j := 41) (k := 41) ms es1 es2
    rcases hL with ⟨i, rfl, i0, i1, rfl⟩ | ⟨p, rfl, hp, hR⟩
    · refine ⟨_, rfl, .inl ⟨i, rfl, i0, i1, true, rfl, iteF ?_⟩⟩
      refine ⟨_, rfl, x, C, dx, _, _, rfl, hx, T.cl, T.nMat, lkM _ _ _, _, rfl, .inl ⟨i, rfl, fun H1 t s1 nt ht => ?_⟩⟩
      refine ⟨m, t, matR r, (i, 1), rfl, s1 _ _ hm, ht, ms.mono (by decide), es1.mono (by decide), es2.mono (by decide), fun H2 p' s2 np hp' => ?_⟩
      exact ⟨_, _, rfl, .inr ⟨p', rfl, hp'⟩, ap, as1.mono (by decide), as2.mono (by decide), fun H3 p3 s3 np3 hp3 => k _ p3 ((s1.trans s2).trans s3) ((s1.trans s2).free np3) hp3⟩
    · refine ⟨_, rfl, .inr ⟨p, _, _, rfl, hp, hR, true, rfl, iteF ?_⟩⟩
      refine ⟨_, rfl, x, C, dx, _, _, rfl, hx, T.cl, T.nMat, lkM _ _ _, _, rfl, .inr ⟨p, _, rfl, hp, ?_⟩⟩
      refine ⟨m, p, matR r, e, rfl, (Same.refl H) _ _ hm, hp, ms.mono (by decide), es1.mono (by decide), es2.mono (by decide), fun H2 p' s2 np hp' => ?_⟩
      exact ⟨_, _, rfl, .inr ⟨p', rfl, hp'⟩, ap, as1.mono (by decide), as2.mono (by decide), fun H3 p3 s3 np3 hp3 => k _ p3 (s2.trans s3) (s2.free np3) hp3⟩
abbrev s_Pattern_add : Stmt := inClass (top 34) 4
theorem sc_Pattern_add : FnScope ["self", "other", "row"] ["self", "other"] (defScope s_Pattern_add) := ⟨rfl, rfl, rfl, by decide +kernel, rfl, by decide +kernel, by decide +kernel⟩

theorem ok_add {f : Addr} {fd : FuncData} (F : Fun K "__add__" "Pattern.__add__" s_Pattern_add f fd) (T : Txt3 K mg tG t1 t2 t3 aO aW J C) (X_pat : PatD P w K mg base C J fP) (X_join : JoinD P w K mg base J fJ fdJ) : FnOk P w K mg base CX0 7 f fd ["self", "other"] (spAdd C) := by
  refine F.ok sc_Pattern_add (fun vs H Q E h => ?_) (fun cdv A outer s H vs Q E hr h => ?_)
  · obtain ⟨x, y, r, r', rfl, _⟩ := h
    rfl
  · obtain ⟨x, y, r, r', rfl, hP, hP', hok, hok', l1, l1', l8, k⟩ := h
    refine ⟨_, (pss_cons (ps_set (i := 2) sc_Pattern_add.nd rfl (.inl rfl) (pe_op op_catA (pe_fld (pv 0) rfl) (pe_fld (pv 1) rfl)))
      (pss_cons (ps_if (pt_cmpR op_gt (pe_callB call_len_seq (by rfl) T.len (by decide +kernel) (pa_cons (pv 2) pa_nil)) (pe_glob (v := .int 8) rfl T.mgJo ⟨_, rfl⟩) (nomark _)) (pss_one ps_never) pss_nil)
      (pss_one (ps_ret (StX.pe_makeR X_pat.m X_pat.fn (hr.mono (by decide)) rfl T.mgC pass0 (pa_cons (pe_make X_join.m X_join.fn (hr.mono (by decide)) rfl T.mgJ X_join.bd .nil pass0 (pa_cons (pv 2) pa_nil)) pa_nil)))))), ?_⟩
    obtain ⟨dx, q, m, f', ws, f1, f2, f3, f4, hx, hq, hw, hm, _⟩ := hP
    obtain ⟨dy, q', m', g', ws', g1, g2, g3, g4, hy, hq', hw', hm', _⟩ := hP'
    have e1 := hw.1
    have e2 := hw'.1
    refine ⟨_, rfl, x, C, dx, _, _, rfl, hx, T.cl, T.nRow, lkR _ _ _, _, rfl, y, C, dy, _, _, rfl, hy, T.cl, T.nRow, lkR _ _ _, q, q', ws, ws', rfl, rfl, SqT.of hq, SqT.of hq', Nat.le_trans (by omega) (small1000 (show 8 ≤ 1000 by decide)), fun z => ?_, fun _ z => ?_, fun _ _ p np => ?_⟩
    · rw [z] at e1
      have : ([] : List V).length = 0 := rfl
      omega
    · rw [z] at e2
      have : ([] : List V).length = 0 := rfl
      omega
    have s1 := same_upd (o := .tup (ws ++ ws')) np
    have hp : (upd H p (.tup (ws ++ ws'))) p = some (.tup (ws ++ ws')) := upd_same
    have hpp := (hw.app hw').same s1
    refine ⟨_, rfl, p, _, rfl, .inr (SqT.of hp), _, _, rfl, rfl, _, rfl, ite2 (fun e => ?_) (fun _ => ?_)⟩
    · have h1 := of_decide_eq_true e
      rw [List.length_append] at h1
      omega
    exact ⟨_, rfl, make_pat hp hpp (hok.app hok') (by rw [List.length_append]; omega) (by rw [List.length_append]; omega) fun H' z s2 nz hz => k H' z (s1.trans s2) (s1.free nz) hz⟩
abbrev s_Pattern_read : Stmt := inClass (top 34) 10
theorem sc_Pattern_read : FnScope ["text", "parts", "row", "part"] ["text"] (defScope s_Pattern_read) := ⟨rfl, rfl, rfl, by decide +kernel, rfl, by decide +kernel, by decide +kernel⟩

theorem ok_read {f : Addr} {fd : FuncData} (F : Fun K "read" "Pattern.read" s_Pattern_read f fd) (T : Txt3 K mg tG t1 t2 t3 aO aW J C) (X_pat : PatD P w K mg base C J fP) (X_join : JoinD P w K mg base J fJ fdJ) (D_piece_with_text : Df P w K mg base 2 "piece_with_text" ["text"] spPwt) : FnOk P w K mg base CX0 7 f fd ["text"] (spRead C) := by
  refine F.ok sc_Pattern_read (fun vs H Q E h => ?_) (fun cdv A outer s H vs Q E hr h => ?_)
  · obtain ⟨r, rfl, _⟩ := h
    rfl
  · obtain ⟨r, rfl, hok, l1, l8, k⟩ := h
    refine ⟨_, (pss_cons (ps_if (pt_not (pt_val (pe_callB call_isi (by rfl) T.isinstance (by decide +kernel) (pa_cons (pv 0) (pa_cons (pe_bltn (v := .ty "str") (by rfl) T.str_ (by decide +kernel) rfl) pa_nil))))) (pss_one ps_never) pss_nil)
      (pss_cons (ps_set (i := 1) sc_Pattern_read.nd rfl (.inl rfl) (pe_split (pv 0) pe_str))
      (pss_cons (ps_if (pt_cmpR op_gt (pe_callB call_len_seq (by rfl) T.len (by decide +kernel) (pa_cons (pv 1) pa_nil)) (pe_glob (v := .int 8) rfl T.mgJo ⟨_, rfl⟩) (nomark _)) (pss_one ps_never) pss_nil)
      (pss_cons (ps_set (i := 2) sc_Pattern_read.nd rfl (.inl rfl) (pe_callTy call_tuple_of (by rfl) T.tuple_ (by decide +kernel) (pa_cons (pe_lc (own := [("part", 3)]) (g := gName 3) (tt := tYes) rfl sc_Pattern_read.nd (pi_list (pv 1)) (blkOk_by (N := ["text", "parts", "row", "part"]) (sc := defScope s_Pattern_read) (by decide +kernel)) (fun _ _ _ _ _ => pg_name (i := 3) sc_Pattern_read.nd rfl (Or.inl rfl)) (fun _ _ _ _ _ => pts_nil) (fun _ _ _ _ _ => (pe_df D_piece_with_text (hr.mono (by decide)) (by rfl) (pa_cons (pv 3) pa_nil)))) pa_nil)))
      (pss_cons (ps_if (pt_cmpR (op_inT (units65 hr)) pe_non (pv 2) (by rfl)) (pss_one ps_never) pss_nil)
      (pss_one (ps_ret (StX.pe_makeR X_pat.m X_pat.fn (hr.mono (by decide)) rfl T.mgC pass0 (pa_cons (pe_make X_join.m X_join.fn (hr.mono (by decide)) rfl T.mgJ X_join.bd .nil pass0 (pa_cons (pv 2) pa_nil)) pa_nil))))))))), ?_⟩
    refine ⟨_, rfl, _, _, _, _, true, rfl, .ty _, .base (.str _), kit_ty (by decide +kernel), true, rfl, iteF ?_⟩
    refine ⟨_, rfl, ⟨_, rfl⟩, _, _, rfl, rfl, by decide +kernel, Nat.le_trans (Nat.add_le_add_right (rowTx_len hok l8) 2) (small1000 (show 101 ≤ 999 + 1 by decide)), fun p np => ?_⟩
    rw [parts_split hok l1]
    have s1 := same_upd (o := .lst ((r.map ptx).map V.str)) np
    have hp : (upd H p (.lst ((r.map ptx).map V.str))) p = some (.lst ((r.map ptx).map V.str)) := upd_same
    have len : ((r.map ptx).map V.str).length = r.length := by rw [List.length_map, List.length_map]
    generalize upd H p (.lst ((r.map ptx).map V.str)) = H1 at *
    refine ⟨_, rfl, p, _, rfl, .inl (SqL.of hp), _, _, rfl, rfl, _, rfl, ite2 (fun e => ?_) (fun _ => ?_)⟩
    · have h1 := of_decide_eq_true e
      rw [len] at h1
      omega
    refine ⟨_, rfl, p, rfl, ⟨_, SqL.of hp⟩, fun D hD => ?_⟩
    refine lc_list (K := K) (a := p) (xs := (r.map ptx).map V.str) (fun i H' => But D H1 H' ∧ ∃ vs, H' D = some (.lst vs) ∧ PiecesAt H' vs (r.take i)) ⟨But.upd, [], upd_same, rfl, fun i e z => by simp at z⟩ (fun i H' _ h => SqL.of (h.1 _ _ (ne_of_none hp hD) hp)) ?_ ?_
    · rintro i y H' hi ⟨bD, vs, hDi, hF⟩
      refine ⟨rfl, ?_⟩
      unfold tYes
      refine iteT ?_
      obtain ⟨pc, rfl, hpc⟩ : ∃ pc, y = .str (ptx pc) ∧ r[i]? = some pc := by
        rw [List.getElem?_map, List.getElem?_map] at hi
        cases e : r[i]? with
        | none =>
          rw [e] at hi
          cases hi
        | some pc =>
          rw [e] at hi
          exact ⟨pc, (Option.some.inj hi).symm, rfl⟩
      have il : i < r.length := (List.getElem?_eq_some_iff.mp hpc).1
      have lv : vs.length = i := by
        rw [hF.1, List.length_take]
        omega
      have tk : r.take (i + 1) = r.take i ++ [pc] := by
        rw [List.take_succ, hpc]
        rfl
      refine ⟨_, rfl, pc, rfl, hok.at_ hpc, fun H5 t s5 nt ht => ?_⟩
      have hD5 := s5 _ _ hDi
      have bD2 : But D H5 (upd H5 D (.lst (vs ++ [.ref t]))) := But.upd
      refine ⟨vs, hD5, small1000 (by omega), ?_, vs ++ [.ref t], upd_same, ?_⟩
      · intro b o nb e
        rw [upd_ne nb]
        exact s5 _ _ (bD _ _ nb e)
      · rw [tk]
        refine ((hF.same s5).app ⟨rfl, fun j p hj => ?_⟩).but bD2 (fun xs z => by rw [hD5] at z; cases z)
        match j, hj with
        | 0, hj =>
          cases hj
          exact ⟨_, rfl, t, rfl, ht⟩
    · rintro H' ⟨bD, vs, hDn, hF⟩
      rw [len, List.take_length] at hF
      have sD : Same H1 H' := fun b o e => bD _ _ (ne_of_none e hD) e
      refine ⟨D, _, rfl, .inl ⟨SqL.of hDn, fun l hl => ?_⟩⟩
      have s6 := same_upd (o := .tup vs) hl
      have hF6 := hF.same s6
      have hl6 : (upd H' l (.tup vs)) l = some (.tup vs) := upd_same
      have sA := (s1.trans sD).trans s6
      generalize upd H' l (.tup vs) = H6 at *
      refine ⟨_, rfl, .none, _, .non, dp_row hF6 hl6, rfl, sh_row r, _, rfl, ite2 (fun e => ?_) (fun _ => ?_)⟩
      · exfalso
        rw [List.any_eq_true] at e
        obtain ⟨z, hz, ez⟩ := e
        obtain ⟨pc, _, rfl⟩ := List.mem_map.mp hz
        rw [eqv_none_tup] at ez
        cases ez
      exact ⟨_, rfl, make_pat hl6 hF6 hok l1 l8 fun H' z s2 nz hz => k H' z (sA.trans s2) (sA.free nz) hz⟩
end
end RL

set_option maxHeartbeats 1000000
namespace RL
open PySem L2 PySem.Spec PyProof.Rows
def RowL (H : Hp) (a : Addr) (r : List Pc) : Prop := ∃ ws, H a = some (.lst ws) ∧ PiecesAt H ws r
def PairAt (H : Hp) (t : Addr) (e : Int × Int) : Prop := H t = some (.tup [.int e.1, .int e.2])
theorem RowL.same {H H' : Hp} {a : Addr} {r : List Pc} (h : RowL H a r) (s : Same H H') : RowL H' a r := by
  obtain ⟨ws, h1, h2⟩ := h
  exact ⟨ws, s _ _ h1, h2.same s⟩
theorem RowL.but {H H' : Hp} {a c : Addr} {r : List Pc} (h : RowL H a r) (hc : CupAt c H) (na : a ≠ c) (s : But c H H') : RowL H' a r := by
  obtain ⟨ws, h1, h2⟩ := h
  obtain ⟨u, v, hc, _⟩ := hc
  exact ⟨ws, s _ _ na h1, h2.but s (fun xs z => by rw [hc] at z; cases z)⟩
theorem But.tup {c a : Addr} {H H' : Hp} {xs : List V} (b : But c H H') (hc : CupAt c H) (h : H a = some (.tup xs)) : H' a = some (.tup xs) := by
  obtain ⟨u, v, hc, _⟩ := hc
  exact b _ _ (ne_of h hc (by intro z; cases z)) h
def spFront : Sp := fun vs H Q _ => ∃ (a p : Addr) (r : List Pc) (e : Int × Int), vs = [.ref a, .ref p] ∧ RowL H a r ∧ RowOk r ∧ r.length ≤ 8 ∧ PairAt H p e ∧ Pos2 e ∧ Sm 1000 e.1 ∧ Sm 1000 e.2 ∧
  ∀ H' t, Same H H' → H t = none → PairAt H' t (low (frtR r e)) → Q (.ref t) H'
def spRow : Sp := fun vs H Q _ => ∃ (c : Addr) (m : Int), vs = [.ref c, .int m] ∧ CupAt c H ∧ 1 ≤ m ∧ m ≤ 8 ∧
  ∀ H' a r, But c H H' → CupAt c H' → H a = none → a ≠ c → RowL H' a r → RowOk r → 1 ≤ r.length → (r.length : Int) ≤ m → Q (.ref a) H'
def spWords : Sp := fun vs H Q _ => ∃ (a : Addr) (r : List Pc), vs = [.ref a] ∧ RowL H a r ∧ RowOk r ∧ r.length ≤ 8 ∧ ∀ H', Same H H' → Q (.str (rowTx r)) H'
def spEnd : Sp := fun vs H Q _ => ∃ c : Addr, vs = [.ref c] ∧ CupAt c H ∧ ∀ H' t e, But c H H' → CupAt c H' → PairAt H' t e → ResP e.1 e.2 → Q (.ref t) H'
def spReadL (C : Addr) : Sp := fun vs H Q _ => ∃ (a : Addr) (r : List Pc), vs = [.ref a] ∧ RowL H a r ∧ RowOk r ∧ 1 ≤ r.length ∧ r.length ≤ 8 ∧ ∀ H' z, Same H H' → H z = none → PatAt C H' z r → Q (.ref z) H'
theorem ResP.pos {e : Int × Int} (h : ResP e.1 e.2) : Pos2 e := by
  rcases h with ⟨h1, _, h2, _⟩ | ⟨h1, h2⟩
  · exact ⟨h1, by omega, .inr (by omega)⟩
  · exact ⟨by omega, by omega, .inl (by omega)⟩
theorem ResP.sm {e : Int × Int} (h : ResP e.1 e.2) : Sm 41 e.1 ∧ Sm 41 e.2 := by
  have k : ∀ z : Int, 0 ≤ z → z ≤ 1000000000000 → Sm 41 z := fun z h1 h2 => sm_lt h1 (by
    have e : (2 : Int) ^ 41 = 2199023255552 := by decide
    rw [e]
    omega)
  rcases h with ⟨h1, h2, h3, h4⟩ | ⟨h1, h2⟩
  · exact ⟨k _ h1 h2, k _ (by omega) h4⟩
  · exact ⟨k _ (by omega) (by omega), k _ (by omega) (by omega)⟩
section
variable {P : Program} {w : World} {K : PySem.W.Frag} {mg : Str → Option Value} {base : Heap} {tG t1 t2 t3 : Tok} {aO aW J C fP fJ : Addr} {fdJ : FuncData}
abbrev s_law_row : Stmt := top 72
theorem sc_law_row : FnScope ["_law_cup_here", "_law_most", "_law_found", "_law_turn"] ["_law_cup_here", "_law_most"] (defScope s_law_row) := ⟨rfl, rfl, rfl, by decide +kernel, rfl, by decide +kernel, by decide +kernel⟩

theorem ok_row {f : Addr} {fd : FuncData} (F : Fun K "_law_row" "_law_row" s_law_row f fd) (T : Txt K mg) (D_law_sip : Df P w K mg base 1 "_law_sip" ["_law_cup_here", "_law_many"] spSip) (D_law_pick : Df P w K mg base 2 "_law_pick" ["_law_cup_here", "_law_things"] spPick) : FnOk P w K mg base CX0 3 f fd ["_law_cup_here", "_law_most"] spRow := by
  refine F.ok sc_law_row (fun vs H Q E h => ?_) (fun cdv A outer s H vs Q E hr h => ?_)
  · obtain ⟨c, m, rfl, _⟩ := h
    rfl
  · obtain ⟨c, m, rfl, hc, m1, m8, k⟩ := h
    refine ⟨_, (pss_cons (ps_set (i := 2) sc_law_row.nd rfl (.inl rfl) (pe_lst pa_nil))
      (pss_cons (ps_for PassesOwn.never rfl (pi_range1 rfl T.range (pa_cons (pe_op op_add pe_int (pe_df D_law_sip (hr.mono (by decide)) (by rfl) (pa_cons (pv 0) (pa_cons (pv 1) pa_nil)))) pa_nil)) (pg_name (i := 3) sc_law_row.nd rfl (.inl rfl)) (pss_one (ps_expr (pe_bm PySem.F.plainAttrs_list PySem.F.slot_list_append PySem.F.type_list_append mt_append (pv 2) (pa_cons (pe_tup (pa_cons (pe_df D_law_pick (hr.mono (by decide)) (by rfl) (pa_cons (pv 0) (pa_cons (pe_lst (pa_cons pe_str (pa_cons pe_str pa_nil))) pa_nil))) (pa_cons (pe_op op_add pe_int (pe_df D_law_sip (hr.mono (by decide)) (by rfl) (pa_cons (pv 0) (pa_cons pe_int pa_nil)))) pa_nil))) pa_nil)))))
      (pss_one (ps_ret (pv 2))))), ?_⟩
    refine ⟨Nat.zero_le _, fun a na => ?_⟩
    have s1 := same_upd (o := .lst []) na
    have nac : a ≠ c := (hc.ne na).symm
    have ha1 : (upd H a (.lst [])) a = some (.lst []) := upd_same
    have hc1 := hc.same s1
    generalize upd H a (.lst []) = H1 at *
    refine ⟨_, rfl, _, rfl, c, m, rfl, hc1, by omega, (sm_lt (n := 200) (by omega) (Int.lt_of_le_of_lt m8 (by decide))), fun H2 n b2 hc2 n0 n1 => ⟨_, _, rfl, rfl, _, rfl, by omega, by omega, ?_⟩⟩
    refine for_range (lo := 0) (n := (1 + n).toNat) (fun i σ H' => But c H H' ∧ CupAt c H' ∧ (∃ v, σ = [some (.ref c), some (.int m), some (.ref a), v]) ∧ ∃ r, r.length = i ∧ RowL H' a r ∧ RowOk r) ⟨(But.of s1).trans b2, hc2, ⟨none, rfl⟩, [], rfl, ⟨[], b2 _ _ nac ha1, rfl, fun i p z => by simp at z⟩, fun p hp => by simp at hp⟩ ?_ ?_
    · rintro i σ H' hi ⟨bH, hcH, ⟨v, rfl⟩, r, lr, ⟨ws, ha, hw⟩, hok⟩
      have hi9 : i < 9 := by omega
      refine ⟨_, rfl, .inl ⟨rfl, _, SqL.of ha⟩, _, rfl, (by show 2 ≤ sizeLine; decide), fun l nl => ?_⟩
      have sl := same_upd (o := .lst [.str (Str.ofString "rail"), .str (Str.ofString "rung")]) nl
      have hl : (upd H' l (.lst [.str (Str.ofString "rail"), .str (Str.ofString "rung")])) l = some (.lst [.str (Str.ofString "rail"), .str (Str.ofString "rung")]) := upd_same
      refine ⟨c, l, _, rfl, hcH.same sl, hcH.ne nl, hl, by show 0 < 2; decide, by show 2 ≤ 100; decide, fun H3 v3 b3 hc3 hv3 => ?_⟩
      obtain ⟨w3, rfl⟩ : ∃ b : Bool, v3 = .str (wd b) := by
        simp only [List.mem_cons, List.not_mem_nil, or_false] at hv3
        rcases hv3 with rfl | rfl
        · exact ⟨true, rfl⟩
        · exact ⟨false, rfl⟩
      refine ⟨_, rfl, c, 12, rfl, hc3, by decide, (by unfold Sm; decide), fun H4 o b4 hc4 o0 o1 => ⟨_, _, rfl, rfl, (by show 2 ≤ sizeLine; decide), fun t nt => ?_⟩⟩
      have st := same_upd (o := .tup [.str (wd w3), .int (1 + o)]) nt
      have bb := ((But.of (c := c) sl).trans b3).trans b4
      have ha4 : H4 a = some (.lst ws) := bb _ _ nac ha
      have nat : a ≠ t := ne_of_none ha4 nt
      have hw4 : PiecesAt H4 ws r := hw.but bb (fun xs z => by obtain ⟨u, v, h, _⟩ := hcH; rw [h] at z; cases z)
      have bt : But a (upd H4 t (.tup [.str (wd w3), .int (1 + o)])) (upd (upd H4 t (.tup [.str (wd w3), .int (1 + o)])) a (.lst (ws ++ [.ref t]))) := But.upd
      have ha5 := st _ _ ha4
      refine ⟨a, _, _, rfl, rfl, ha5, small1000 (by rw [hw.1]; omega), ?_⟩
      have okp : PcOk (w3, 1 + o) := ⟨by dsimp; omega, by dsimp; omega⟩
      refine ⟨?_, ?_, ⟨_, rfl⟩, r ++ [(w3, 1 + o)], by rw [List.length_append, lr]; rfl, ⟨_, upd_same, ?_⟩, hok.app fun p hp => by rw [List.mem_singleton] at hp; rw [hp]; exact okp⟩
      · refine fun b o' nb e => ?_
        have nba : b ≠ a := ne_of_none e na
        exact bt _ _ nba (st _ _ (bb _ _ nb (bH _ _ nb e)))
      · obtain ⟨u, v, h, z⟩ := hc4
        exact ⟨u, v, bt _ _ nac.symm (st _ _ h), z⟩
      · refine ((hw4.same st).app ⟨rfl, fun j p hj => ?_⟩).but bt (fun xs z => by rw [ha5] at z; cases z)
        match j, hj with
        | 0, hj =>
          cases hj
          exact ⟨_, rfl, t, rfl, upd_same⟩
    · rintro σ H' ⟨bH, hcH, ⟨v, rfl⟩, r, lr, hR, hok⟩
      exact ⟨_, rfl, k H' a r bH hcH na nac hR hok (by omega) (by omega)⟩
abbrev s_law_words : Stmt := top 73
theorem sc_law_words : FnScope ["_law_row_here", "_law_word", "_law_ohms"] ["_law_row_here"] (defScope s_law_words) := ⟨rfl, rfl, rfl, by decide +kernel, rfl, by decide +kernel, by decide +kernel⟩

theorem ok_words {f : Addr} {fd : FuncData} (F : Fun K "_law_words" "_law_words" s_law_words f fd) (T : Txt K mg) : FnOk P w K mg base CX0 1 f fd ["_law_row_here"] spWords := by
  refine F.ok sc_law_words (fun vs H Q E h => ?_) (fun cdv A outer s H vs Q E hr h => ?_)
  · obtain ⟨a, r, rfl, _⟩ := h
    rfl
  · obtain ⟨a, r, rfl, ⟨ws, ha, hw⟩, hok, l8, k⟩ := h
    refine ⟨_, (pss_one (ps_ret (pe_join pe_str (pe_lc (own := [("_law_word", 1), ("_law_ohms", 2)]) (g := gTup K 2 (gCons (gName 1) (gCons (gName 2) gNil))) (tt := tYes) rfl sc_law_words.nd (pi_list (pv 0)) (blkOk_by (N := ["_law_row_here", "_law_word", "_law_ohms"]) (sc := defScope s_law_words) (by decide +kernel)) (fun _ _ _ _ _ => pg_tup rfl (pgs_cons (pg_name (i := 1) sc_law_words.nd rfl (Or.inl rfl)) (pgs_cons (pg_name (i := 2) sc_law_words.nd rfl (Or.inl rfl)) pgs_nil))) (fun _ _ _ _ _ => pts_nil) (fun _ _ _ _ _ => (pe_op op_add_str (pe_op op_add_str (pv 1) pe_str) (pe_callTy call_str_int (by rfl) T.str_ (by decide +kernel) (pa_cons (pv 2) pa_nil)))))))), ?_⟩
    refine ⟨⟨_, rfl⟩, _, rfl, a, rfl, ⟨_, SqL.of ha⟩, fun D hD => ?_⟩
    refine lc_list (K := K) (a := a) (xs := ws) (fun i H' => But D H H' ∧ H' D = some (.lst (((r.take i).map ptx).map V.str))) ⟨But.upd, upd_same⟩ (fun i H' _ h => SqL.of (h.1 _ _ (ne_of_none ha hD) ha)) ?_ ?_
    · rintro i y H1 hi ⟨bD, hDi⟩
      obtain ⟨pc, hpc, t, rfl, ht⟩ := hw.at_ hi
      have ht1 := bD _ _ (ne_of_none ht hD) ht
      have ok := hok.at_ hpc
      have oh : Sm 200 pc.2 := (ohm_sm ok).mono (by decide)
      have ww : OkT 4 (wd pc.1) := by
        unfold wd
        split
        · exact OkT.of "rail"
        · exact OkT.of "rung"
      have lens : ∀ {m n : Nat} {x y : Str}, OkT m x → OkT n y → m + n ≤ 100000 → x.length + y.length ≤ sizeLine := fun {m n x y} h1 h2 h3 => by
        have := h1.len
        have := h2.len
        rw [sizeLine_eq]
        omega
      refine ⟨t, _, rfl, SqT.of ht1, rfl, _, _, rfl, _, _, rfl, rfl, rfl, ?_⟩
      unfold tYes
      refine iteT ?_
      refine ⟨_, rfl, _, _, rfl, rfl, lens ww (OkT.of " ") (by decide), _, rfl, _, rfl, Nat.lt_trans (log_sm (by decide) oh) (by decide), _, _, rfl, rfl, lens (ww.app (OkT.of " ")) (ts_ok oh) (by decide), _, hDi, ?_, ?_, ?_⟩
      · rw [List.length_map, List.length_map, List.length_take]
        exact small1000 (by omega)
      · intro q o nq e
        rw [upd_ne nq]
        exact bD _ _ nq e
      · rw [upd_same, List.take_succ, hpc]
        simp only [Option.toList, List.map_append, List.map_cons, List.map_nil]
        rfl
    · rintro H1 ⟨bD, hDn⟩
      rw [hw.1, List.take_length] at hDn
      refine ⟨_, D, r.map ptx, rfl, rfl, .inl (SqL.of hDn), ?_, ?_⟩
      · have h2 := sum_len hok
        have h3 : (Str.ofString ", ").length = 2 := by decide +kernel
        rw [List.length_map]
        show _ + r.length * (Str.ofString ", ").length ≤ 16777216
        rw [h3]
        omega
      · exact k _ fun q o e => bD _ _ (ne_of_none e hD) e
variable {pr gr : Addr} {fr : FuncData}
abbrev s_law_read : Stmt := top 74
theorem sc_law_read : FnScope ["_law_row_here"] ["_law_row_here"] (defScope s_law_read) := ⟨rfl, rfl, rfl, by decide +kernel, rfl, by decide +kernel, by decide +kernel⟩

theorem ok_readL {f : Addr} {fd : FuncData} (F : Fun K "_law_read" "_law_read" s_law_read f fd) (T : Txt3 K mg tG t1 t2 t3 aO aW J C) (OR : OwR P w K mg base C pr gr fr) (D_law_words : Df P w K mg base 1 "_law_words" ["_law_row_here"] spWords) : FnOk P w K mg base CX0 8 f fd ["_law_row_here"] (spReadL C) := by
  refine F.ok sc_law_read (fun vs H Q E h => ?_) (fun cdv A outer s H vs Q E hr h => ?_)
  · obtain ⟨a, r, rfl, _⟩ := h
    rfl
  · obtain ⟨a, r, rfl, hR, hok, l1, l8, k⟩ := h
    refine ⟨_, (pss_one (ps_ret (pe_smeth (pe_glob (v := .ref C) rfl T.mgC rfl) OR.rd OR.sm OR.ok OR.b (hr.mono (by decide)) (pa_cons (pe_df D_law_words (hr.mono (by decide)) (by rfl) (pa_cons (pv 0) pa_nil)) pa_nil)))), ?_⟩
    exact ⟨rfl, _, rfl, a, r, rfl, hR, hok, l8, fun H1 s1 => ⟨r, rfl, hok, l1, l8, fun H2 z s2 nz hz => k _ z (s1.trans s2) (s1.free nz) hz⟩⟩
end
end RL

set_option maxHeartbeats 1000000
namespace RL
open PySem L2 PySem.Spec PyProof.Rows
structure Txt4 (K : PySem.W.Frag) (mg : Str → Option Value) (tG t1 t2 t3 tP tC : Tok) (aO aW J C Ce Cl : Addr) : Prop extends Txt3 K mg tG t1 t2 t3 aO aW J C where
  mgP : mg "GREATEST_PART" = some (.int 10000000000000000000000000000000000000000 tP)
  mgCo : mg "MOST_SECTIONS" = some (.int 100 tC)
  mgE : mg "Exact" = some (.ref Ce)
  clE : Cls K Ce
  nP : NoAttr K Ce "parts"
  mgL : mg "Ladder" = some (.ref Cl)
  clL : Cls K Cl
  nSec : NoAttr K Cl "section"
  nBeh : NoAttr K Cl "behind"
  nFar : NoAttr K Cl "far"
def spRoot : Sp := fun vs H Q _ => ∃ n : Int, vs = [.int n] ∧ 0 ≤ n ∧ Sm 4000 n ∧ ∀ H', Same H H' → Q (.int (rt n)) H'
def spSign : Sp := fun vs H Q _ => ∃ n : Int, vs = [.int n] ∧ Q (.int (sg n)) H
def spUnder : Sp := fun vs H Q _ => ∃ s l w : Int, vs = [.int s, .int l, .int w] ∧ Sm 1000 s ∧ Sm 1000 l ∧ Sm 1000 w ∧ Q (.int (l * l + 4 * s * w)) H
def spEqF : Sp := fun vs H Q _ => ∃ (t b : Int), vs = [.int t, .int b] ∧ Pos2 (t, b) ∧ Sm 4000 t ∧ Sm 4000 b ∧
  ∀ H' p, Same H H' → H p = none → H' p = some (.tup [.int 0, .int (b / gc t b), .int (t / gc t b)]) → Q (.ref p) H'
def spSimp : Sp := fun vs H Q _ => ∃ a b c : Int, vs = [.int a, .int b, .int c] ∧ Good a b c ∧ Sm 133 a ∧ Sm 133 b ∧ Sm 133 c ∧
  ∀ H' p, Same H H' → H p = none → H' p = some (.tup [.int (parts a b c).1, .int (parts a b c).2.1, .int (parts a b c).2.2]) → Q (.ref p) H'
section
variable {P : Program} {w : World} {K : PySem.W.Frag} {mg : Str → Option Value} {base : Heap} {tG t1 t2 t3 tP tC : Tok} {aO aW J C Ce Cl fP fJ : Addr} {fdJ : FuncData}
theorem pow_up {a b : Nat} (h : a ≤ b) : (2 : Int) ^ a ≤ 2 ^ b := by
  have := Nat.pow_le_pow_right (n := 2) (by decide) h
  have e : ∀ k : Nat, ((2 ^ k : Nat) : Int) = 2 ^ k := fun k => by rw [Int.natCast_pow]; rfl
  rw [← e, ← e]
  omega
theorem bits_lt {n : Int} (h : 0 ≤ n) : n < 2 ^ (Builtin.Int.intBits n) := by
  unfold Builtin.Int.intBits
  by_cases z : n = 0
  · subst z
    decide
  · rw [if_neg (by simpa using z)]
    have := Nat.lt_log2_self (n := n.natAbs)
    have e : ((2 ^ (n.natAbs.log2 + 1) : Nat) : Int) = 2 ^ (n.natAbs.log2 + 1) := by rw [Int.natCast_pow]; rfl
    rw [← e]
    omega
theorem bits_le {n : Int} {m : Nat} (h : Sm m n) : Builtin.Int.intBits n ≤ m := PyProof.Rows.intBits_le h
abbrev s_square_root : Stmt := top 20
theorem sc_square_root : FnScope ["number", "guess"] ["number"] (defScope s_square_root) := ⟨rfl, rfl, rfl, by decide +kernel, rfl, by decide +kernel, by decide +kernel⟩

theorem ok_sqrt {f : Addr} {fd : FuncData} (F : Fun K "square_root" "square_root" s_square_root f fd) : FnOk P w K mg base CX0 1 f fd ["number"] spRoot := by
  refine F.ok sc_square_root (fun vs H Q E h => ?_) (fun cdv A outer s H vs Q E hr h => ?_)
  · obtain ⟨n, rfl, _⟩ := h
    rfl
  · obtain ⟨n, rfl, n0, ns, k⟩ := h
    refine ⟨_, (pss_cons (ps_set (i := 1) sc_square_root.nd rfl (.inl rfl) (pe_op op_oneShl pe_int (pe_op op_fdivW (pe_op op_add (pe_bits (pv 0)) pe_int) pe_int)))
      (pss_cons (ps_while PassesOwn.never (pt_cmpR op_gt (pe_op op_mulX (pv 1) (pv 1)) (pv 0) (nomark _)) (pss_one (ps_set (i := 1) sc_square_root.nd rfl (.inl rfl) (pe_op op_fdivW (pe_op op_add (pv 1) (pe_op op_fdivW (pv 0) (pv 1))) pe_int))))
      (pss_one (ps_ret (pv 1))))), ?_⟩
    have hb := bits_le ns
    have hl := bits_lt n0
    refine ⟨_, rfl, n, rfl, _, _, rfl, rfl, _, _, rfl, rfl, dvw (b := 3) (by decide) (by unfold Sm; decide), ?_⟩
    have ek : ((Builtin.Int.intBits n : Nat) + 1 : Int) / 2 = (((Builtin.Int.intBits n + 1) / 2 : Nat) : Int) := by omega
    generalize Builtin.Int.intBits n = b at *
    refine ⟨(b + 1) / 2, rfl, congrArg V.int ek, (by omega), ?_⟩
    have ks : (b + 1) / 2 ≤ 2000 := by omega
    have kb : b ≤ (b + 1) / 2 + (b + 1) / 2 := by omega
    generalize (b + 1) / 2 = q at *
    have p0 : (0 : Int) < 2 ^ q := Int.pow_pos (by decide)
    have hp : n < 2 ^ q * 2 ^ q := by
      rw [← Int.pow_add]
      exact Int.lt_of_lt_of_le hl (pow_up kb)
    have gs : Sm 2001 (2 ^ q) := by
      unfold Sm
      rw [Int.natAbs_pow]
      exact Nat.pow_lt_pow_right (by decide) (by omega)
    refine while_by (fun σ H' => H' = H ∧ ∃ g : Int, σ = [some (.int n), some (.int g)] ∧ 0 ≤ g ∧ n < (g + 1) * (g + 1) ∧ Sm 2001 g) (fun σ _ => match σ with | [_, some (.int g)] => g.toNat | _ => 0) ⟨rfl, 2 ^ q, rfl, by omega, ?_, gs⟩ ?_ ?_
    · have e : ((2 : Int) ^ q + 1) * (2 ^ q + 1) = 2 ^ q * 2 ^ q + 2 * 2 ^ q + 1 := by
        generalize (2 : Int) ^ q = u
        grind
      omega
    · rintro σ H' ⟨rfl, g, rfl, g0, g1, gs⟩
      refine ⟨_, rfl, _, rfl, _, _, rfl, rfl, mx gs gs, _, rfl, _, _, rfl, rfl, _, rfl, ite2 (fun e => ?_) (fun e => ?_)⟩
      · have e0 : n < g * g := of_decide_eq_true e
        obtain ⟨h1, h2, h3, h4⟩ := newton n0 g0 g1 e0
        refine ⟨_, rfl, _, rfl, _, rfl, _, _, rfl, rfl, dvw h1 gs, _, _, rfl, rfl, _, _, rfl, rfl, dvw (b := 3) (by decide) (by unfold Sm; decide), ⟨rfl, _, rfl, h2, h4, gs.of (by omega) (by omega)⟩, ?_⟩
        show ((g + n / g) / 2).toNat < g.toNat
        omega
      · have e0 : ¬ n < g * g := fun z => e (decide_eq_true z)
        refine ⟨_, rfl, ?_⟩
        rw [rt_of ⟨g0, by omega, g1⟩]
        exact k _ (Same.refl _)
    · rintro σ H' Q1 Q2 hq h
      obtain ⟨v, e1, v2, e2, i, j, e3, e4, cm, v3, e5, i2, j2, e6, e7, z⟩ := h
      exact ⟨v, e1, v2, e2, i, j, e3, e4, cm, v3, e5, i2, j2, e6, e7, z.imp fun k z => ⟨z.1, hq _ _ z.2⟩⟩
abbrev s_sign : Stmt := top 19
theorem sc_sign : FnScope ["number"] ["number"] (defScope s_sign) := ⟨rfl, rfl, rfl, by decide +kernel, rfl, by decide +kernel, by decide +kernel⟩

theorem ok_sign {f : Addr} {fd : FuncData} (F : Fun K "sign" "sign" s_sign f fd) : FnOk P w K mg base CX0 1 f fd ["number"] spSign := by
  refine F.ok sc_sign (fun vs H Q E h => ?_) (fun cdv A outer s H vs Q E hr h => ?_)
  · obtain ⟨n, rfl, _⟩ := h
    rfl
  · obtain ⟨n, rfl, k⟩ := h
    refine ⟨_, (pss_cons (ps_if (pt_cmpR op_gt (pv 0) pe_int (nomark _)) (pss_one (ps_ret pe_int)) pss_nil)
      (pss_cons (ps_if (pt_cmpR op_lt (pv 0) pe_int (nomark _)) (pss_one (ps_ret (pe_un un_neg pe_int))) pss_nil)
      (pss_one (ps_ret pe_int)))), ?_⟩
    unfold sg at k
    refine ⟨_, rfl, _, _, rfl, rfl, _, rfl, ite2 (fun e => ?_) (fun e => ?_)⟩
    · rw [if_pos (show 0 < n from of_decide_eq_true e)] at k
      exact k
    · rw [if_neg (show ¬ 0 < n from fun z => e (decide_eq_true z))] at k
      refine ⟨_, rfl, _, _, rfl, rfl, _, rfl, ite2 (fun e2 => ?_) (fun e2 => ?_)⟩
      · rw [if_pos (show n < 0 from of_decide_eq_true e2)] at k
        exact ⟨1, rfl, k⟩
      · rw [if_neg (show ¬ n < 0 from fun z => e2 (decide_eq_true z))] at k
        exact k
abbrev s_under_root : Stmt := top 49
theorem sc_under_root : FnScope ["square", "line", "whole"] ["square", "line", "whole"] (defScope s_under_root) := ⟨rfl, rfl, rfl, by decide +kernel, rfl, by decide +kernel, by decide +kernel⟩

theorem ok_under {f : Addr} {fd : FuncData} (F : Fun K "under_root" "under_root" s_under_root f fd) : FnOk P w K mg base CX0 1 f fd ["square", "line", "whole"] spUnder := by
  refine F.ok sc_under_root (fun vs H Q E h => ?_) (fun cdv A outer s H vs Q E hr h => ?_)
  · obtain ⟨a, b, c, rfl, _⟩ := h
    rfl
  · obtain ⟨a, b, c, rfl, ha, hb, hc, k⟩ := h
    refine ⟨_, (pss_one (ps_ret (pe_op op_add (pe_op op_mulX (pv 1) (pv 1)) (pe_op op_mulX (pe_op op_mul pe_int (pv 0)) (pv 2))))), ?_⟩
    have h4 : Sm 1003 (4 * a) := Sm.mul (m := 3) (n := 1000) (x := 4) (by unfold Sm; decide) ha
    exact ⟨_, rfl, _, rfl, _, _, rfl, rfl, mx hb hb, _, rfl, _, _, rfl, rfl, .inl ⟨by decide, by decide⟩, _, rfl, _, _, rfl, rfl, mx h4 hc, _, _, rfl, rfl, k⟩
abbrev s_equation_of_fraction : Stmt := top 51
theorem sc_equation_of_fraction : FnScope ["top", "bottom", "top_part", "bottom_part"] ["top", "bottom"] (defScope s_equation_of_fraction) := ⟨rfl, rfl, rfl, by decide +kernel, rfl, by decide +kernel, by decide +kernel⟩

theorem ok_eqf {f : Addr} {fd : FuncData} (F : Fun K "equation_of_fraction" "equation_of_fraction" s_equation_of_fraction f fd) (D_lowest_terms : Df P w K mg base 2 "lowest_terms" ["top", "bottom"] spLow) : FnOk P w K mg base CX0 3 f fd ["top", "bottom"] spEqF := by
  refine F.ok sc_equation_of_fraction (fun vs H Q E h => ?_) (fun cdv A outer s H vs Q E hr h => ?_)
  · obtain ⟨t, b, rfl, _⟩ := h
    rfl
  · obtain ⟨t, b, rfl, tb, ts, bs, k⟩ := h
    refine ⟨_, (pss_cons (ps_asg (pe_df D_lowest_terms (hr.mono (by decide)) (by rfl) (pa_cons (pv 0) (pa_cons (pv 1) pa_nil))) (pg_tup rfl (pgs_cons (pg_name (i := 2) sc_equation_of_fraction.nd rfl (.inl rfl)) (pgs_cons (pg_name (i := 3) sc_equation_of_fraction.nd rfl (.inl rfl)) pgs_nil))))
      (pss_one (ps_ret (pe_tup (pa_cons pe_int (pa_cons (pv 3) (pa_cons (pv 2) pa_nil))))))), ?_⟩
    refine ⟨_, rfl, _, rfl, t, b, rfl, tb, ts, bs, fun H1 p sm np hp => ?_⟩
    refine ⟨p, _, rfl, SqT.of hp, rfl, _, _, rfl, _, _, rfl, rfl, ?_⟩
    exact ⟨_, rfl, _, rfl, (by show 3 ≤ sizeLine; decide), fun q hq => k _ q (sm.trans (same_upd hq)) (sm.free hq) upd_same⟩
abbrev s_simplest_equation : Stmt := top 50
theorem sc_simplest_equation : FnScope ["square", "line", "whole", "inside", "root", "divisor"] ["square", "line", "whole"] (defScope s_simplest_equation) := ⟨rfl, rfl, rfl, by decide +kernel, rfl, by decide +kernel, by decide +kernel⟩

theorem ok_simp {f : Addr} {fd : FuncData} (F : Fun K "simplest_equation" "simplest_equation" s_simplest_equation f fd) (D_common_divisor : Df P w K mg base 1 "common_divisor" ["first", "second"] spGcd) (D_square_root : Df P w K mg base 1 "square_root" ["number"] spRoot)
    (D_under_root : Df P w K mg base 1 "under_root" ["square", "line", "whole"] spUnder) (D_equation_of_fraction : Df P w K mg base 3 "equation_of_fraction" ["top", "bottom"] spEqF) : FnOk P w K mg base CX0 4 f fd ["square", "line", "whole"] spSimp := by
  refine F.ok sc_simplest_equation (fun vs H Q E h => ?_) (fun cdv A outer s H vs Q E hr h => ?_)
  · obtain ⟨a, b, c, rfl, _⟩ := h
    rfl
  · obtain ⟨a, b, c, rfl, hG, ha, hb, hc, k⟩ := h
    refine ⟨_, (pss_cons (ps_if (pt_cmpR op_eq (pv 0) pe_int (nomark _)) (pss_one (ps_ret (pe_df D_equation_of_fraction (hr.mono (by decide)) (by rfl) (pa_cons (pv 2) (pa_cons (pv 1) pa_nil))))) pss_nil)
      (pss_cons (ps_set (i := 3) sc_simplest_equation.nd rfl (.inl rfl) (pe_df D_under_root (hr.mono (by decide)) (by rfl) (pa_cons (pv 0) (pa_cons (pv 1) (pa_cons (pv 2) pa_nil)))))
      (pss_cons (ps_set (i := 4) sc_simplest_equation.nd rfl (.inl rfl) (pe_df D_square_root (hr.mono (by decide)) (by rfl) (pa_cons (pv 3) pa_nil)))
      (pss_cons (ps_if (pt_cmpR op_eq (pe_op op_mulX (pv 4) (pv 4)) (pv 3) (nomark _)) (pss_one (ps_ret (pe_df D_equation_of_fraction (hr.mono (by decide)) (by rfl) (pa_cons (pe_op op_sub (pv 4) (pv 1)) (pa_cons (pe_op op_mul pe_int (pv 0)) pa_nil))))) pss_nil)
      (pss_cons (ps_set (i := 5) sc_simplest_equation.nd rfl (.inl rfl) (pe_df D_common_divisor (hr.mono (by decide)) (by rfl) (pa_cons (pe_df D_common_divisor (hr.mono (by decide)) (by rfl) (pa_cons (pv 0) (pa_cons (pv 1) pa_nil))) (pa_cons (pv 2) pa_nil))))
      (pss_one (ps_ret (pe_tup (pa_cons (pe_op op_fdivW (pv 0) (pv 5)) (pa_cons (pe_op op_fdivW (pv 1) (pv 5)) (pa_cons (pe_op op_fdivW (pv 2) (pv 5)) pa_nil))))))))))), ?_⟩
    unfold parts at k
    refine ⟨_, rfl, rfl, _, rfl, ite2 (fun e => ?_) (fun e => ?_)⟩
    · have a0 : a = 0 := V.int.inj (of_decide_eq_true e)
      rw [if_pos a0] at k
      have b0 : 1 ≤ b ∧ 0 ≤ c := by
        rcases hG with z | z
        · exact z.2
        · omega
      exact ⟨_, rfl, _, rfl, c, b, rfl, ⟨b0.2, by show 0 ≤ b; omega, .inr (by show 0 < b; omega)⟩, hc.mono (by decide), hb.mono (by decide), k⟩
    · have a0 : ¬ a = 0 := fun z => e (decide_eq_true (congrArg V.int z))
      rw [if_neg a0] at k
      have hg : 1 ≤ a ∧ 1 ≤ c := by
        rcases hG with z | z
        · exact absurd z.1 a0
        · exact z
      have ip := inside_pos (b := b) hg
      have hd : Sm 270 (b * b + 4 * a * c) := by
        have h4 : Sm 3 4 := by unfold Sm; decide
        have e1 : Sm (133 + 133) (b * b) := hb.mul hb
        have e2 : Sm (3 + 133 + 133) (4 * a * c) := (h4.mul ha).mul hc
        exact (Sm.add (n := 269) (e1.mono (by decide)) (e2.mono (by decide)))
      have hr0 : Sm 135 (rt (b * b + 4 * a * c)) := rt_sm (n := 135) ip.2 hd
      refine ⟨_, rfl, _, rfl, _, rfl, a, b, c, rfl, ha.mono (by decide), hb.mono (by decide), hc.mono (by decide), ?_⟩
      refine ⟨_, rfl, _, rfl, ip.2, hd.mono (by decide), fun H1 sm => ?_⟩
      refine ⟨_, rfl, _, rfl, _, _, rfl, rfl, mx hr0 hr0, _, rfl, rfl, _, rfl, ite2 (fun e2 => ?_) (fun e2 => ?_)⟩
      · have e3 : rt (b * b + 4 * a * c) * rt (b * b + 4 * a * c) = b * b + 4 * a * c := V.int.inj (of_decide_eq_true e2)
        rw [if_pos e3] at k
        have rg := rt_gt ip.1 (rt_is ip.2).1 e3.symm
        refine ⟨_, rfl, _, rfl, _, _, rfl, rfl, _, rfl, _, _, rfl, rfl, .inl ⟨by decide, by decide⟩, _, _, rfl, ⟨by show 0 ≤ rt (b * b + 4 * a * c) - b; omega, by show 0 ≤ 2 * a; omega, .inr (by show 0 < 2 * a; omega)⟩, ?_, ?_, fun H2 p sm2 np hp => ?_⟩
        · exact (hr0.sub (hb.mono (by decide))).mono (by decide)
        · exact (Sm.mul (m := 2) (n := 133) (x := 2) (by unfold Sm; decide) ha).mono (by decide)
        · exact k _ p (sm.trans sm2) (sm.free np) hp
      · have e3 : ¬ rt (b * b + 4 * a * c) * rt (b * b + 4 * a * c) = b * b + 4 * a * c := fun z => e2 (decide_eq_true (congrArg V.int z))
        rw [if_neg e3] at k
        have g0 : 0 < gc (gc a b) c := gc_pos (.inr (by omega))
        have gb : gc (gc a b) c ≤ c := Int.le_of_dvd (by omega) (gc_dvd2 _ _)
        have gs : Sm 133 (gc (gc a b) c) := hc.of (by omega) gb
        refine ⟨_, rfl, _, rfl, a, b, rfl, _, rfl, _, _, rfl, ?_⟩
        refine ⟨_, rfl, _, rfl, _, _, rfl, rfl, dvw g0 gs, _, rfl, _, rfl, _, _, rfl, rfl, dvw g0 gs, _, rfl, _, rfl, _, _, rfl, rfl, dvw g0 gs, (by show 3 ≤ sizeLine; decide), fun p hp => ?_⟩
        exact k _ _ (sm.trans (same_upd hp)) (sm.free hp) upd_same
end
end RL

set_option maxHeartbeats 1000000
namespace RL
open PySem L2 PySem.Spec PyProof.Rows
def ExAt (C : Addr) (H : Hp) (x : Addr) (s l w : Int) : Prop := ∃ dx p : Addr, H x = some (.ins C dx [("parts", .ref p)]) ∧ H p = some (.tup [.int s, .int l, .int w])
def Big (a b c : Int) : Prop := Good a b c ∧ a ≤ 10000000000000000000000000000000000000000 ∧ -10000000000000000000000000000000000000000 ≤ b ∧ b ≤ 10000000000000000000000000000000000000000 ∧ c ≤ 10000000000000000000000000000000000000000
theorem Big.sm {a b c : Int} (h : Big a b c) : Sm 133 a ∧ Sm 133 b ∧ Sm 133 c := by
  obtain ⟨g, h1, h2, h3, h4⟩ := h
  have e : (10 : Int) ^ 40 = 10000000000000000000000000000000000000000 := by decide
  have a0 : 0 ≤ a ∧ 0 ≤ c := by
    rcases g with g | g <;> omega
  exact ⟨sm40 (by omega) (by omega), sm40 (by omega) (by omega), sm40 (by omega) (by omega)⟩
def spInit (C : Addr) : Sp := fun vs H Q _ => ∃ (x dx : Addr) (a b c : Int), vs = [.ref x, .int a, .int b, .int c] ∧ H x = some (.ins C dx []) ∧ Big a b c ∧
  ∀ H' : Hp, But x H H' → ExAt C H' x (parts a b c).1 (parts a b c).2.1 (parts a b c).2.2 → Q .non H'
def spFt : Sp := fun vs H Q _ => ∃ t b : Int, vs = [.int t, .int b] ∧ Sm 200 t ∧ Sm 200 b ∧ Q (.str (ftext t b)) H
def spCm : Sp := fun vs H Q _ => ∃ (p : Addr) (a b c : Int), vs = [.ref p] ∧ H p = some (.tup [.int a, .int b, .int c]) ∧ Sm 200 a ∧ Sm 200 b ∧ Sm 200 c ∧ ∀ H', Same H H' → Q (.str (commas a b c)) H'
def spStr (C : Addr) : Sp := fun vs H Q _ => ∃ (x : Addr) (s l w : Int), vs = [.ref x] ∧ ExAt C H x s l w ∧ Sm 200 s ∧ Sm 200 l ∧ Sm 200 w ∧ ∀ H', Same H H' → Q (.str (xtext s l w)) H'
def spRep (C : Addr) : Sp := fun vs H Q _ => ∃ (x : Addr) (s l w : Int), vs = [.ref x] ∧ ExAt C H x s l w ∧ Sm 200 s ∧ Sm 200 l ∧ Sm 200 w ∧ ∀ H', Same H H' → Q (.str (rtext s l w)) H'
def spEqn (C : Addr) : Sp := fun vs H Q _ => ∃ (x dx p : Addr), vs = [.ref x] ∧ H x = some (.ins C dx [("parts", .ref p)]) ∧ Q (.ref p) H
def spFrac (C : Addr) : Sp := fun vs H Q _ => ∃ (x : Addr) (s l w : Int), vs = [.ref x] ∧ ExAt C H x s l w ∧ (s = 0 → ∀ H' q, Same H H' → H' q = some (.tup [.int w, .int l]) → Q (.ref q) H') ∧ (s ≠ 0 → Q .non H)
/-! ### a new Exact, by position and by keywords -/
structure ExD (P : Program) (w : World) (K : PySem.W.Frag) (mg : Str → Option Value) (base : Heap) (C : Addr) : Prop where
  ex : ∃ (fI : Addr) (fdI : FuncData), Mk K C fI ∧ FnOk P w K mg base CX0 5 fI fdI ["self", "square", "line", "whole"] (spInit C) ∧ Binds K fdI ["self", "square", "line", "whole"] []
theorem pe_exact {X : Cx} {C : Addr} {p pos : Pos} {e : Expr} {es : List Expr} {t : TA} (D : ExD X.prog X.w X.K X.mg X.base C) (hr : Room 6 X.A) (hg : Gl X "Exact") (hm : X.mg "Exact" = some (.ref C))
    (ha : PA X (e :: es) t) (he : starEach (e :: es) X.env = (false, eval e X.env) :: starEach es X.env := by rfl) (hpl : (backTo pos (starEach es X.env)).any (·.1) = false := by rfl) :
    PE X (.Call (.Name "Exact" p) (e :: es) [] pos) (tMake C (spInit C) [] E0 t) := by
  obtain ⟨fI, fdI, M, G, hb⟩ := D.ex
  exact pe_make M G hr hg hm hb .nil pass0 ha (by decide) he hpl
theorem ExAt.same {C x : Addr} {H H' : Hp} {s l w : Int} (h : ExAt C H x s l w) (sm : Same H H') : ExAt C H' x s l w := by
  obtain ⟨dx, p, a, b⟩ := h
  exact ⟨dx, p, sm _ _ a, sm _ _ b⟩
theorem ExAt.but {C x c : Addr} {H H' : Hp} {s l w : Int} (h : ExAt C H x s l w) (hc : CupAt c H) (sm : But c H H') : ExAt C H' x s l w := by
  obtain ⟨dx, p, a, b⟩ := h
  refine ⟨dx, p, ?_, sm.tup hc b⟩
  obtain ⟨u, v, e, _⟩ := hc
  exact sm _ _ (ne_of a e (by intro z; cases z)) a
def spNormal : Sp := fun vs H Q _ => ∃ a b c : Int, vs = [.int a, .int b, .int c] ∧ Good a b c ∧ Sm 133 a ∧ Sm 133 b ∧ Sm 133 c ∧
  ∀ H' p, Same H H' → H' p = some (.tup [.int (parts a b c).1, .int (parts a b c).2.1, .int (parts a b c).2.2]) → Q (.ref p) H'
section
variable {P : Program} {w : World} {K : PySem.W.Frag} {mg : Str → Option Value} {base : Heap} {tG t1 t2 t3 tP tC : Tok} {aO aW J C Ce Cl fP fJ : Addr} {fdJ : FuncData}
abbrev s_Exact_init : Stmt := inClass (top 48) 0
theorem sc_Exact_init : FnScope ["self", "square", "line", "whole"] ["self", "square", "line", "whole"] (defScope s_Exact_init) := ⟨rfl, rfl, rfl, by decide +kernel, rfl, by decide +kernel, by decide +kernel⟩

theorem ok_init {f : Addr} {fd : FuncData} (F : Fun K "__init__" "Exact.__init__" s_Exact_init f fd) (T : Txt4 K mg tG t1 t2 t3 tP tC aO aW J C Ce Cl) (D_is_integer_within : Df P w K mg base 2 "is_integer_within" ["value", "least", "most"] spWithin) (D_simplest_equation : Df P w K mg base 4 "simplest_equation" ["square", "line", "whole"] spSimp) :
    FnOk P w K mg base CX0 5 f fd ["self", "square", "line", "whole"] (spInit Ce) := by
  refine F.ok sc_Exact_init (fun vs H Q E h => ?_) (fun cdv A outer s H vs Q E hr h => ?_)
  · obtain ⟨x, dx, a, b, c, rfl, _⟩ := h
    rfl
  · obtain ⟨x, dx, a, b, c, rfl, hx, hB, k⟩ := h
    refine ⟨_, (pss_cons (ps_if (pt_not (pt_val (pe_df D_is_integer_within (hr.mono (by decide)) (by rfl) (pa_cons (pv 1) (pa_cons pe_int (pa_cons (pe_glob (v := .int 10000000000000000000000000000000000000000) rfl T.mgP ⟨_, rfl⟩) pa_nil)))))) (pss_one ps_never) pss_nil)
      (pss_cons (ps_if (PW.pt (pw_or (pt_not (pt_val (pe_df D_is_integer_within (hr.mono (by decide)) (by rfl) (pa_cons (pv 2) (pa_cons (pe_un un_neg (pe_glob (v := .int 10000000000000000000000000000000000000000) rfl T.mgP ⟨_, rfl⟩)) (pa_cons (pe_glob (v := .int 10000000000000000000000000000000000000000) rfl T.mgP ⟨_, rfl⟩) pa_nil)))))) (pw_or1 (PW.pt (pw_and (pt_cmpR op_eq (pv 1) pe_int (nomark _)) (pw_and1 (pt_cmpR op_lt (pv 2) pe_int (nomark _)))))))) (pss_one ps_never) pss_nil)
      (pss_cons (ps_if (PW.pt (pw_or (pt_not (pt_val (pe_df D_is_integer_within (hr.mono (by decide)) (by rfl) (pa_cons (pv 3) (pa_cons pe_int (pa_cons (pe_glob (v := .int 10000000000000000000000000000000000000000) rfl T.mgP ⟨_, rfl⟩) pa_nil)))))) (pw_or1 (PW.pt (pw_and (pt_cmpR op_ne (pv 1) pe_int (nomark _)) (pw_and1 (pt_cmpR op_eq (pv 3) pe_int (nomark _)))))))) (pss_one ps_never) pss_nil)
      (pss_one (ps_fld (pv 0) (pe_df D_simplest_equation (hr.mono (by decide)) (by rfl) (pa_cons (pv 1) (pa_cons (pv 2) (pa_cons (pv 3) pa_nil)))) rfl))))), ?_⟩
    obtain ⟨sa, sb, sc⟩ := hB.sm
    obtain ⟨g, h1, h2, h3, h4⟩ := hB
    have a0 : 0 ≤ a ∧ 0 ≤ c := by
      rcases g with g | g <;> omega
    refine ⟨_, rfl, a, 0, _, rfl, a0.1, h1, true, rfl, iteF ?_⟩
    refine ⟨_, rfl, _, rfl, b, _, _, rfl, h2, h3, true, rfl, iteF ?_⟩
    refine both (fun rest => ⟨_, rfl, rfl, _, rfl, ite2 (fun e => ⟨_, rfl, _, _, rfl, rfl, _, rfl, ite2 (fun e2 => ?_) (fun _ => rest)⟩) (fun _ => iteF rest)⟩) ?_
    · have e3 : a = 0 := V.int.inj (of_decide_eq_true e)
      have e4 : b < 1 := of_decide_eq_true e2
      rcases g with g | g <;> omega
    refine ⟨_, rfl, c, 0, _, rfl, a0.2, h4, true, rfl, iteF ?_⟩
    refine both (fun rest => ⟨_, rfl, rfl, _, rfl, ite2 (fun e => ⟨_, rfl, rfl, _, rfl, ite2 (fun e2 => ?_) (fun _ => rest)⟩) (fun _ => iteF rest)⟩) ?_
    · have e3 : ¬ a = 0 := fun z => by
        have e5 : (!decide (V.int a = V.int 0)) = true := e
        rw [decide_eq_true (congrArg V.int z)] at e5
        cases e5
      have e4 : c = 0 := V.int.inj (of_decide_eq_true e2)
      rcases g with g | g <;> omega
    refine ⟨_, rfl, _, rfl, _, rfl, a, b, c, rfl, g, sa, sb, sc, fun H1 p sm np hp => ?_⟩
    have hx1 := sm _ _ hx
    have nxp : x ≠ p := ne_of hx1 hp (by intro z; cases z)
    refine ⟨_, rfl, x, Ce, dx, _, rfl, hx1, T.clE, T.nP, (by show 0 < 1000; decide), ?_⟩
    refine k _ ((But.of sm).trans But.upd) ⟨dx, p, upd_same, ?_⟩
    rw [upd_ne nxp.symm]
    exact hp
theorem lg {i : Int} (h : Sm 200 i) : i.natAbs.log2 < 1920 := Nat.lt_trans (log_sm (by decide) h) (by decide)
abbrev s_fraction_text : Stmt := top 18
theorem sc_fraction_text : FnScope ["top", "bottom"] ["top", "bottom"] (defScope s_fraction_text) := ⟨rfl, rfl, rfl, by decide +kernel, rfl, by decide +kernel, by decide +kernel⟩

theorem ok_ft {f : Addr} {fd : FuncData} (F : Fun K "fraction_text" "fraction_text" s_fraction_text f fd) (T : Txt K mg) : FnOk P w K mg base CX0 1 f fd ["top", "bottom"] spFt := by
  refine F.ok sc_fraction_text (fun vs H Q E h => ?_) (fun cdv A outer s H vs Q E hr h => ?_)
  · obtain ⟨t, b, rfl, _⟩ := h
    rfl
  · obtain ⟨t, b, rfl, ht, hb, k⟩ := h
    refine ⟨_, (pss_cons (ps_if (pt_cmpR op_eq (pv 1) pe_int (nomark _)) (pss_one (ps_ret (pe_callTy call_str_int (by rfl) T.str_ (by decide +kernel) (pa_cons (pv 0) pa_nil)))) pss_nil)
      (pss_one (ps_ret (pe_joined (PJ.cons (pe_fmt (pv 0)) (PJ.cons pe_str (PJ.cons (pe_fmt (pv 1)) PJ.nil))))))), ?_⟩
    unfold ftext at k
    refine ⟨_, rfl, rfl, _, rfl, ite2 (fun e => ?_) (fun e => ?_)⟩
    · rw [if_pos (V.int.inj (of_decide_eq_true e))] at k
      exact ⟨_, rfl, _, rfl, lg ht, k⟩
    · rw [if_neg (fun z => e (decide_eq_true (congrArg V.int z)))] at k
      have o1 : OkT 201 (Str.empty ++ ts t) := by
        rw [Str.empty_append]
        exact ts_ok ht
      have o2 := o1.app (OkT.of "/")
      have o3 := o2.app (ts_ok hb)
      refine ⟨_, rfl, .inr ⟨_, rfl, lg ht, _, rfl, o1.fits, _, rfl, o2.fits, _, rfl, .inr ⟨_, rfl, lg hb, _, rfl, o3.fits, ?_⟩⟩⟩
      show Q (.str (((Str.empty ++ ts t) ++ "/") ++ ts b)) H
      rw [Str.empty_append]
      exact k
abbrev s_with_commas : Stmt := top 55
theorem sc_with_commas : FnScope ["parts", "part"] ["parts"] (defScope s_with_commas) := ⟨rfl, rfl, rfl, by decide +kernel, rfl, by decide +kernel, by decide +kernel⟩

theorem ok_cm {f : Addr} {fd : FuncData} (F : Fun K "with_commas" "with_commas" s_with_commas f fd) (T : Txt K mg) : FnOk P w K mg base CX0 1 f fd ["parts"] spCm := by
  refine F.ok sc_with_commas (fun vs H Q E h => ?_) (fun cdv A outer s H vs Q E hr h => ?_)
  · obtain ⟨p, a, b, c, rfl, _⟩ := h
    rfl
  · obtain ⟨p, a, b, c, rfl, hp, ha, hb, hc, k⟩ := h
    refine ⟨_, (pss_one (ps_ret (pe_join pe_str (pe_lc (own := [("part", 1)]) (g := gName 1) (tt := tYes) rfl sc_with_commas.nd (pi_tup (pv 0)) (blkOk_by (N := ["parts", "part"]) (sc := defScope s_with_commas) (by decide +kernel)) (fun _ _ _ _ _ => pg_name (i := 1) sc_with_commas.nd rfl (Or.inl rfl)) (fun _ _ _ _ _ => pts_nil) (fun _ _ _ _ _ => (pe_callTy call_str_int (by rfl) T.str_ (by decide +kernel) (pa_cons (pv 1) pa_nil))))))), ?_⟩
    refine ⟨⟨_, rfl⟩, _, rfl, p, rfl, ⟨_, SqT.of hp⟩, fun D hD => ?_⟩
    refine lc_tup (K := K) (a := p) (xs := [.int a, .int b, .int c]) (fun i H' => But D H H' ∧ H' D = some (.lst (([ts a, ts b, ts c].take i).map V.str))) ⟨But.upd, upd_same⟩ (fun i H' _ h => SqT.of (h.1 _ _ (ne_of_none hp hD) hp)) ?_ ?_
    · rintro i y H1 hi ⟨bD, hDi⟩
      refine ⟨rfl, ?_⟩
      unfold tYes
      refine iteT ?_
      obtain ⟨z, rfl, hz, ez⟩ : ∃ z : Int, y = .int z ∧ Sm 200 z ∧ [ts a, ts b, ts c].take (i + 1) = [ts a, ts b, ts c].take i ++ [ts z] := by
        match i, hi with
        | 0, hi =>
          cases hi
          exact ⟨a, rfl, ha, rfl⟩
        | 1, hi =>
          cases hi
          exact ⟨b, rfl, hb, rfl⟩
        | 2, hi =>
          cases hi
          exact ⟨c, rfl, hc, rfl⟩
      refine ⟨_, rfl, _, rfl, lg hz, _, hDi, ?_, ?_, ?_⟩
      · rw [List.length_map, List.length_take]
        exact small1000 (Nat.le_trans (Nat.min_le_right _ _) (by show 3 ≤ 1000; decide))
      · intro q o nq e
        rw [upd_ne nq]
        exact bD _ _ nq e
      · rw [upd_same, ez, List.map_append]
        rfl
    · rintro H1 ⟨bD, hDn⟩
      refine ⟨_, D, [ts a, ts b, ts c], rfl, rfl, .inl (SqL.of hDn), ?_, ?_⟩
      · have l1 := (ts_ok ha).len
        have l2 := (ts_ok hb).len
        have l3 := (ts_ok hc).len
        show ((ts a).length + ((ts b).length + ((ts c).length + 0))) + 3 * 2 ≤ 16777216
        omega
      · rw [join3]
        exact k _ fun q o e => bD _ _ (ne_of_none e hD) e
abbrev s_Exact_str : Stmt := inClass (top 48) 7
abbrev s_Exact_repr : Stmt := inClass (top 48) 8
abbrev s_Exact_fraction : Stmt := inClass (top 48) 1
theorem sc_Exact_fraction : FnScope ["self", "square", "line", "whole"] ["self"] (defScope s_Exact_fraction) := ⟨rfl, rfl, rfl, by decide +kernel, rfl, by decide +kernel, by decide +kernel⟩

theorem ok_frac {f : Addr} {fd : FuncData} (F : Fun K "fraction" "Exact.fraction" s_Exact_fraction f fd) (T : Txt4 K mg tG t1 t2 t3 tP tC aO aW J C Ce Cl) : FnOk P w K mg base CX0 1 f fd ["self"] (spFrac Ce) := by
  refine F.ok sc_Exact_fraction (fun vs H Q E h => ?_) (fun cdv A outer s H vs Q E hr h => ?_)
  · obtain ⟨x, a, b, c, rfl, _⟩ := h
    rfl
  · obtain ⟨x, a, b, c, rfl, ⟨dx, pp, hx, hpp⟩, k1, k2⟩ := h
    refine ⟨_, (pss_cons (ps_asg (pe_fld (pv 0) rfl) (pg_tup rfl (pgs_cons (pg_name (i := 1) sc_Exact_fraction.nd rfl (.inl rfl)) (pgs_cons (pg_name (i := 2) sc_Exact_fraction.nd rfl (.inl rfl)) (pgs_cons (pg_name (i := 3) sc_Exact_fraction.nd rfl (.inl rfl)) pgs_nil)))))
      (pss_cons (ps_if (pt_cmpR op_eq (pv 1) pe_int (nomark _)) (pss_one (ps_ret (pe_tup (pa_cons (pv 3) (pa_cons (pv 2) pa_nil))))) pss_nil)
      (pss_one (ps_ret pe_non)))), ?_⟩
    refine ⟨_, rfl, x, Ce, dx, _, _, rfl, hx, T.clE, T.nP, rfl, pp, _, rfl, SqT.of hpp, rfl, _, _, rfl, _, _, rfl, _, _, rfl, rfl, ?_⟩
    refine ⟨_, rfl, rfl, _, rfl, ite2 (fun e => ?_) (fun e => ?_)⟩
    · have a0 : a = 0 := V.int.inj (of_decide_eq_true e)
      exact ⟨_, rfl, _, rfl, (by show 2 ≤ sizeLine; decide), fun q hq => k1 a0 _ q (same_upd hq) upd_same⟩
    · exact k2 fun z => e (decide_eq_true (congrArg V.int z))
abbrev s_Exact_equation : Stmt := inClass (top 48) 2
theorem sc_Exact_equation : FnScope ["self"] ["self"] (defScope s_Exact_equation) := ⟨rfl, rfl, rfl, by decide +kernel, rfl, by decide +kernel, by decide +kernel⟩

theorem ok_eqn {f : Addr} {fd : FuncData} (F : Fun K "equation" "Exact.equation" s_Exact_equation f fd) (T : Txt4 K mg tG t1 t2 t3 tP tC aO aW J C Ce Cl) : FnOk P w K mg base CX0 1 f fd ["self"] (spEqn Ce) := by
  refine F.ok sc_Exact_equation (fun vs H Q E h => ?_) (fun cdv A outer s H vs Q E hr h => ?_)
  · obtain ⟨x, dx, p, rfl, _⟩ := h
    rfl
  · obtain ⟨x, dx, p, rfl, hx, k⟩ := h
    refine ⟨_, (pss_one (ps_ret (pe_fld (pv 0) rfl))), ?_⟩
    exact ⟨_, rfl, x, Ce, dx, _, _, rfl, hx, T.clE, T.nP, rfl, k⟩
end
end RL

set_option maxHeartbeats 1000000
namespace RL
open PySem L2 PySem.Spec PyProof.Rows
structure IsC (K : PySem.W.Frag) (C : Addr) : Prop where
  ca : PySem.W.findIn K (.ref C) "__class__" = some (some (.builtin "object.__class__"))
  cn : PySem.W.specialIn K (.builtin "object.__class__") "__get__" = some (some (.builtin "getset_descriptor.__get__"))
  ct : PySem.W.takesIn K (.builtin "object.__class__") = some true
  cm : PySem.W.mroIn K C (.type "object") = some true
  is_ : PySem.W.kitOne K (.ref C) (.ref C) = some true
/-! ### methods, by position and by one keyword -/
structure Mt (P : Program) (w : World) (K : PySem.W.Frag) (mg : Str → Option Value) (base : Heap) (C : Addr) (k : Nat) (m p1 kw : Str) (sp : Sp) : Prop where
  ex : ∃ (f : Addr) (fd : FuncData), FnOk P w K mg base CX0 k f fd [p1, kw] sp ∧ Meth K C m f ∧ Binds K fd [p1, kw] [] ∧ (∀ (s : Shared) (u v : Value), K.In s.heap → BindsTo s fd ⟨[u], [(kw, v)]⟩ [(p1, u), (kw, v)])
def tMethK (C : Addr) (m : Str) (sp : Sp) (ta : TE) (tk : TA) : TE := fun σ H Q => ta σ H fun x H1 => ∃ a dx fs, x = .ref a ∧ H1 a = some (.ins C dx fs) ∧ fs.lookup m = none ∧ tk σ H1 fun zs H2 => sp (.ref a :: zs) H2 Q E0
section
variable {X : Cx} {k : Nat} {C : Addr} {sp : Sp} {m p1 kw : Str} {p pos apos kpos : Pos} {e o : Expr} {es : List Expr} {t : TA} {ta te : TE} {tk : TA}
theorem pe_dm {pl : Sem Bool} (he : PE X o ta) (c : Cls X.K C) (D : Mt X.prog X.w X.K X.mg X.base C k m p1 kw sp) (hr : Room k X.A) (ha : PA X (e :: es) t)
    (hst : starEach (e :: es) X.env = (false, eval e X.env) :: starEach es X.env := by rfl) (hpl : (backTo pos (starEach es X.env)).any (·.1) = false := by rfl)
    (ht : eval (.Call (.Attribute o m apos) (e :: es) [] pos) X.env = (do
      let ov ← eval o X.env
      standAt apos.atName
      let (f, first) ← holding [ov] (getMethod ov m pl)
      callWith pos f first (backTo pos (starEach (e :: es) X.env)) (backToKw pos (keywordEach [] X.env))) := by rfl) :
    PE X (.Call (.Attribute o m apos) (e :: es) [] pos) (tMeth C m sp [] E0 ta t) := by
  obtain ⟨f, fd, F, hm, hb, _⟩ := D.ex
  exact pe_meth (pl := pl) he c hm F hr hb .nil pass0 ha hst hpl ht
end
theorem PatAt.butX {C : Addr} {H H' : Hp} {x c : Addr} {r : List Pc} (h : PatAt C H x r) (hc : ∀ xs, H c ≠ some (.tup xs)) (nx : x ≠ c) (s : But c H H') : PatAt C H' x r := by
  obtain ⟨dx, q, m, f, ws, f1, f2, f3, f4, h1, h2, h3, h4, h5, h6, h7, h8, h9⟩ := h
  have st : ∀ {a : Addr} {xs : List V}, H a = some (.tup xs) → H' a = some (.tup xs) := fun {a xs} e => s _ _ (fun z => hc xs (z ▸ e)) e
  exact ⟨dx, q, m, f, ws, f1, f2, f3, f4, s _ _ nx h1, st h2, h3.but s hc, st h4, st h5, st h6, st h7, st h8, st h9⟩
def LimAt (aO Ce : Addr) (H : Hp) (v : V) (r : List Pc) : Prop := ((matR r).c = 0 ∧ v = .ref aO) ∨ ((matR r).c ≠ 0 ∧ ∃ x, v = .ref x ∧ ExAt Ce H x (eqL r).1 (eqL r).2.1 (eqL r).2.2)
theorem LimAt.same {aO Ce : Addr} {H H' : Hp} {v : V} {r : List Pc} (h : LimAt aO Ce H v r) (s : Same H H') : LimAt aO Ce H' v r := by
  rcases h with h | ⟨h, x, e, hx⟩
  · exact .inl h
  · exact .inr ⟨h, x, e, hx.same s⟩
def LF (p q : Addr) (v : V) : List (Str × V) := [("section", .ref p), ("behind", .ref q), ("far", v)]
def LadAt (C aO Ce Cl : Addr) (H : Hp) (x : Addr) (r : List Pc) (e : Int × Int) : Prop := ∃ (dx p q : Addr) (v : V), H x = some (.ins Cl dx (LF p q v)) ∧ PatAt C H p r ∧ PairAt H q e ∧ LimAt aO Ce H v r
theorem LadAt.same {C aO Ce Cl : Addr} {H H' : Hp} {x : Addr} {r : List Pc} {e : Int × Int} (h : LadAt C aO Ce Cl H x r e) (s : Same H H') : LadAt C aO Ce Cl H' x r e := by
  obtain ⟨dx, p, q, v, h1, h2, h3, h4⟩ := h
  exact ⟨dx, p, q, v, s _ _ h1, h2.same s, s _ _ h3, h4.same s⟩
theorem nsb : (("section" : Str) == ("behind" : Str)) = false := by decide +kernel
theorem nsf : (("section" : Str) == ("far" : Str)) = false := by decide +kernel
theorem nbf : (("behind" : Str) == ("far" : Str)) = false := by decide +kernel
theorem nbs : (("behind" : Str) == ("section" : Str)) = false := by decide +kernel
theorem nfs : (("far" : Str) == ("section" : Str)) = false := by decide +kernel
theorem nfb : (("far" : Str) == ("behind" : Str)) = false := by decide +kernel
theorem putB (a v : V) : putF "behind" v [("section", a)] = ([("section", a), ("behind", v)] : List (Str × V)) := by
  unfold putF
  rw [if_neg (str_ne nsb)]
  rfl
theorem putFar (a b v : V) : putF "far" v [("section", a), ("behind", b)] = ([("section", a), ("behind", b), ("far", v)] : List (Str × V)) := by
  unfold putF
  rw [if_neg (str_ne nsf)]
  unfold putF
  rw [if_neg (str_ne nbf)]
  rfl
theorem lkS (p q : Addr) (v : V) : (LF p q v).lookup ("section" : Str) = some (.ref p) := by
  simp [LF, List.lookup]
theorem lkB (p q : Addr) (v : V) : (LF p q v).lookup ("behind" : Str) = some (.ref q) := by
  simp [LF, List.lookup, nbs]
theorem lkAf (p q : Addr) (v : V) : (LF p q v).lookup ("after" : Str) = none := by
  have h1 : (("after" : Str) == ("section" : Str)) = false := by decide +kernel
  have h2 : (("after" : Str) == ("behind" : Str)) = false := by decide +kernel
  have h3 : (("after" : Str) == ("far" : Str)) = false := by decide +kernel
  simp [LF, List.lookup, h1, h2, h3]
theorem lkFar (p q : Addr) (v : V) : (LF p q v).lookup ("far" : Str) = some v := by
  simp [LF, List.lookup, nfs, nfb]
def spCount : Sp := fun vs H Q _ => ∃ n : Int, vs = [.int n] ∧ 0 ≤ n ∧ n ≤ 100 ∧ Q (.bl true) H
def spPO : Sp := fun vs H Q _ => ∃ (a b : Addr) (e f : Int × Int), vs = [.ref a, .ref b] ∧ PairAt H a e ∧ PairAt H b f ∧ Sm 4000 e.1 ∧ Sm 4000 e.2 ∧ Sm 4000 f.1 ∧ Sm 4000 f.2 ∧ Q (.int (sg (e.1 * f.2 - f.1 * e.2))) H
def spChkP (C : Addr) : Sp := fun vs H Q _ => ∃ (x dx : Addr) (fs : List (Str × V)), vs = [.ref x] ∧ H x = some (.ins C dx fs) ∧ Q .non H
def spChkR : Sp := fun vs H Q _ => ∃ (v : V) (e : Int × Int), vs = [v] ∧ LoadAt H v e ∧ Q .non H
def spChkC : Sp := fun vs H Q _ => ∃ n : Int, vs = [.int n] ∧ 0 ≤ n ∧ n ≤ 100 ∧ Q .non H
def spAfter (C aO Ce Cl : Addr) : Sp := fun vs H Q _ => ∃ (x t : Addr) (r : List Pc) (e e' : Int × Int), vs = [.ref x, .ref t] ∧ LadAt C aO Ce Cl H x r e ∧ PairAt H t e' ∧ RowOk r ∧ r.length ≤ 8 ∧ Sm 4000 e'.1 ∧ Sm 4000 e'.2 ∧
  ∀ H' p, Same H H' → H p = none → PairAt H' p ((matR r).app e') → Q (.ref p) H'
def spLim (aO Ce : Addr) : Sp := fun vs H Q _ => ∃ (a : Addr) (r : List Pc), vs = [.ref a] ∧ H a = some (.tup (MatT (matR r))) ∧ RowOk r ∧ r.length ≤ 8 ∧ ∀ H' v, Same H H' → LimAt aO Ce H' v r → Q v H'
def spLad (C aO Ce Cl : Addr) : Sp := fun vs H Q _ => ∃ (x dx p : Addr) (v : V) (r : List Pc) (e : Int × Int), vs = [.ref x, .ref p, v] ∧ H x = some (.ins Cl dx []) ∧ PatAt C H p r ∧ RowOk r ∧ r.length ≤ 8 ∧ LoadAt H v e ∧
  ∀ H', But x H H' → LadAt C aO Ce Cl H' x r (low e) → Q .non H'
def spLCall (C aO Ce Cl : Addr) : Sp := fun vs H Q _ => ∃ (x : Addr) (n : Int) (r : List Pc) (e : Int × Int), vs = [.ref x, .int n] ∧ LadAt C aO Ce Cl H x r e ∧ RowOk r ∧ r.length ≤ 8 ∧ Pos2 e ∧ Sm 41 e.1 ∧ Sm 41 e.2 ∧ 0 ≤ n ∧ n ≤ 100 ∧
  ∀ H' p, Same H H' → H p = none → PairAt H' p (low (appN (matR r) n.toNat e)) → Q (.ref p) H'
def spGoes (C aO Ce Cl : Addr) : Sp := fun vs H Q _ => ∃ (x : Addr) (r : List Pc) (e : Int × Int), vs = [.ref x] ∧ LadAt C aO Ce Cl H x r e ∧ RowOk r ∧ r.length ≤ 8 ∧ Sm 1000 e.1 ∧ Sm 1000 e.2 ∧
  ∀ H', Same H H' → Q (.int (sg (((matR r).app e).1 * e.2 - e.1 * ((matR r).app e).2))) H'
def spLimit (C aO Ce Cl : Addr) : Sp := fun vs H Q _ => ∃ (x : Addr) (r : List Pc) (e : Int × Int), vs = [.ref x] ∧ LadAt C aO Ce Cl H x r e ∧ ∀ v, LimAt aO Ce H v r → Q v H
structure LadD (P : Program) (w : World) (K : PySem.W.Frag) (mg : Str → Option Value) (base : Heap) (C aO Ce Cl f : Addr) (fd : FuncData) : Prop where
  m : Mk K Cl f
  fn : FnOk P w K mg base CX0 8 f fd ["self", "pattern", "load"] (spLad C aO Ce Cl)
  bd : Binds K fd ["self", "pattern", "load"] []
structure OwL (P : Program) (w : World) (K : PySem.W.Frag) (mg : Str → Option Value) (base : Heap) (C aO Ce Cl g : Addr) (fd : FuncData) : Prop where
  co : StX.CallO K Cl g
  ok : FnOk P w K mg base CX0 5 g fd ["self", "count"] (spLCall C aO Ce Cl)
  fr : FnR P w K mg base CX0 5 g (spLCall C aO Ce Cl)
structure OwG (P : Program) (w : World) (K : PySem.W.Frag) (mg : Str → Option Value) (base : Heap) (C aO Ce Cl p g : Addr) (fd : FuncData) : Prop where
  pr : PropOf K Cl "goes" p g
  ok : FnOk P w K mg base CX0 3 g fd ["self"] (spGoes C aO Ce Cl)
  b : Binds K fd ["self"] []
structure OwM (P : Program) (w : World) (K : PySem.W.Frag) (mg : Str → Option Value) (base : Heap) (C aO Ce Cl p g : Addr) (fd : FuncData) : Prop where
  pr : PropOf K Cl "limit" p g
  ok : FnOk P w K mg base CX0 1 g fd ["self"] (spLimit C aO Ce Cl)
  b : Binds K fd ["self"] []
structure OwQ (P : Program) (w : World) (K : PySem.W.Frag) (mg : Str → Option Value) (base : Heap) (Ce p g : Addr) (fd : FuncData) : Prop where
  pr : PropOf K Ce "equation" p g
  ok : FnOk P w K mg base CX0 1 g fd ["self"] (spEqn Ce)
  b : Binds K fd ["self"] []
structure OwF (P : Program) (w : World) (K : PySem.W.Frag) (mg : Str → Option Value) (base : Heap) (Ce p g : Addr) (fd : FuncData) : Prop where
  pr : PropOf K Ce "fraction" p g
  ok : FnOk P w K mg base CX0 1 g fd ["self"] (spFrac Ce)
  b : Binds K fd ["self"] []
theorem parts010 : parts 0 1 0 = (0, 1, 0) := by decide
theorem make_lim {aO Ce : Addr} {H : Hp} {r : List Pc} {a b c : Int} {Q : V → Hp → Prop} (hB : Big a b c) (hc : (matR r).c ≠ 0) (he : eqL r = parts a b c) (k : ∀ H' v, Same H H' → LimAt aO Ce H' v r → Q v H') :
    ∀ z dz, H z = none → H dz = none → dz ≠ z → spInit Ce [.ref z, .int a, .int b, .int c] (upd (upd H dz (.own z)) z (.ins Ce dz [])) (fun v H3 => v = .non ∧ Q (.ref z) H3) E0 := by
  intro z dz nz ndz nez
  refine ⟨z, dz, a, b, c, rfl, upd_same, hB, fun H' bz hE => ⟨rfl, k H' _ (fun b' o e => ?_) (.inr ⟨hc, z, rfl, ?_⟩)⟩⟩
  · refine bz _ _ (ne_of_none e nz) ?_
    rw [upd_ne (ne_of_none e nz), upd_ne (ne_of_none e ndz)]
    exact e
  · rw [he]
    exact hE
section
variable {P : Program} {w : World} {K : PySem.W.Frag} {mg : Str → Option Value} {base : Heap} {tG t1 t2 t3 tP tC : Tok} {aO aW J C Ce Cl fP fJ : Addr} {fdJ : FuncData}
abbrev s_is_count : Stmt := top 10
theorem sc_is_count : FnScope ["value"] ["value"] (defScope s_is_count) := ⟨rfl, rfl, rfl, by decide +kernel, rfl, by decide +kernel, by decide +kernel⟩

theorem ok_count {f : Addr} {fd : FuncData} (F : Fun K "is_count" "is_count" s_is_count f fd) (T : Txt4 K mg tG t1 t2 t3 tP tC aO aW J C Ce Cl) (D_is_integer_within : Df P w K mg base 2 "is_integer_within" ["value", "least", "most"] spWithin) : FnOk P w K mg base CX0 3 f fd ["value"] spCount := by
  refine F.ok sc_is_count (fun vs H Q E h => ?_) (fun cdv A outer s H vs Q E hr h => ?_)
  · obtain ⟨n, rfl, _⟩ := h
    rfl
  · obtain ⟨n, rfl, n0, n1, k⟩ := h
    refine ⟨_, (pss_one (ps_ret (pe_df D_is_integer_within (hr.mono (by decide)) (by rfl) (pa_cons (pv 0) (pa_cons pe_int (pa_cons (pe_glob (v := .int 100) rfl T.mgCo ⟨_, rfl⟩) pa_nil)))))), ?_⟩
    exact ⟨_, rfl, n, 0, 100, rfl, n0, n1, k⟩
abbrev s_pair_order : Stmt := top 17
theorem sc_pair_order : FnScope ["first", "second"] ["first", "second"] (defScope s_pair_order) := ⟨rfl, rfl, rfl, by decide +kernel, rfl, by decide +kernel, by decide +kernel⟩

theorem ok_po {f : Addr} {fd : FuncData} (F : Fun K "pair_order" "pair_order" s_pair_order f fd) (D_sign : Df P w K mg base 1 "sign" ["number"] spSign) : FnOk P w K mg base CX0 2 f fd ["first", "second"] spPO := by
  refine F.ok sc_pair_order (fun vs H Q E h => ?_) (fun cdv A outer s H vs Q E hr h => ?_)
  · obtain ⟨a, b, e, f, rfl, _⟩ := h
    rfl
  · obtain ⟨a, b, e, f, rfl, ha, hb, e1, e2, f1, f2, k⟩ := h
    refine ⟨_, (pss_one (ps_ret (pe_df D_sign (hr.mono (by decide)) (by rfl) (pa_cons (pe_op op_sub (pe_op op_mulX (pe_ix ix_tup (pv 0) pe_int (fun _ _ => rfl)) (pe_ix ix_tup (pv 1) pe_int (fun _ _ => rfl))) (pe_op op_mulX (pe_ix ix_tup (pv 1) pe_int (fun _ _ => rfl)) (pe_ix ix_tup (pv 0) pe_int (fun _ _ => rfl)))) pa_nil)))), ?_⟩
    refine ⟨_, rfl, a, _, _, _, rfl, rfl, SqT.of ha, atI_nat (j := 0) rfl, _, rfl, b, _, _, _, rfl, rfl, SqT.of hb, atI_nat (j := 1) rfl, _, _, rfl, rfl, mx e1 f2, ?_⟩
    exact ⟨_, rfl, b, _, _, _, rfl, rfl, SqT.of hb, atI_nat (j := 0) rfl, _, rfl, a, _, _, _, rfl, rfl, SqT.of ha, atI_nat (j := 1) rfl, _, _, rfl, rfl, mx f1 e2, _, _, rfl, rfl, _, rfl, k⟩
abbrev s_check_pattern : Stmt := top 43
theorem sc_check_pattern : FnScope ["value"] ["value"] (defScope s_check_pattern) := ⟨rfl, rfl, rfl, by decide +kernel, rfl, by decide +kernel, by decide +kernel⟩

theorem ok_chkp {f : Addr} {fd : FuncData} (F : Fun K "check_pattern" "check_pattern" s_check_pattern f fd) (T : Txt4 K mg tG t1 t2 t3 tP tC aO aW J C Ce Cl) (I : IsC K C) : FnOk P w K mg base CX0 1 f fd ["value"] (spChkP C) := by
  refine F.ok sc_check_pattern (fun vs H Q E h => ?_) (fun cdv A outer s H vs Q E hr h => ?_)
  · obtain ⟨x, dx, fs, rfl, _⟩ := h
    rfl
  · obtain ⟨x, dx, fs, rfl, hx, k⟩ := h
    refine ⟨_, (pss_one (ps_if (pt_not (pt_val (pe_callB call_isi (by rfl) T.isinstance (by decide +kernel) (pa_cons (pv 0) (pa_cons (pe_glob (v := .ref C) rfl T.mgC rfl) pa_nil))))) (pss_one ps_never) pss_nil)), ?_⟩
    exact ⟨_, rfl, _, _, _, _, true, rfl, .own C, .base (.ins hx T.cl I.ca I.cn I.ct I.cm), I.is_, true, rfl, iteF k⟩
abbrev s_check_resistance : Stmt := top 44
theorem sc_check_resistance : FnScope ["value"] ["value"] (defScope s_check_resistance) := ⟨rfl, rfl, rfl, by decide +kernel, rfl, by decide +kernel, by decide +kernel⟩

theorem ok_chkr {f : Addr} {fd : FuncData} (F : Fun K "check_resistance" "check_resistance" s_check_resistance f fd) (D_is_resistance : Df P w K mg base 3 "is_resistance" ["value"] spIsRes) : FnOk P w K mg base CX0 4 f fd ["value"] spChkR := by
  refine F.ok sc_check_resistance (fun vs H Q E h => ?_) (fun cdv A outer s H vs Q E hr h => ?_)
  · obtain ⟨v, e, rfl, _⟩ := h
    rfl
  · obtain ⟨v, e, rfl, hv, k⟩ := h
    refine ⟨_, (pss_one (ps_if (pt_not (pt_val (pe_df D_is_resistance (hr.mono (by decide)) (by rfl) (pa_cons (pv 0) pa_nil)))) (pss_one ps_never) pss_nil)), ?_⟩
    rcases hv with ⟨i, rfl, i0, i1, rfl⟩ | ⟨t, rfl, ht, hR⟩
    · exact ⟨_, rfl, .inl ⟨i, rfl, i0, i1, true, rfl, iteF k⟩⟩
    · exact ⟨_, rfl, .inr ⟨t, _, _, rfl, ht, hR, true, rfl, iteF k⟩⟩
abbrev s_check_count : Stmt := top 45
theorem sc_check_count : FnScope ["value"] ["value"] (defScope s_check_count) := ⟨rfl, rfl, rfl, by decide +kernel, rfl, by decide +kernel, by decide +kernel⟩

theorem ok_chkc {f : Addr} {fd : FuncData} (F : Fun K "check_count" "check_count" s_check_count f fd) (D_is_count : Df P w K mg base 3 "is_count" ["value"] spCount) : FnOk P w K mg base CX0 4 f fd ["value"] spChkC := by
  refine F.ok sc_check_count (fun vs H Q E h => ?_) (fun cdv A outer s H vs Q E hr h => ?_)
  · obtain ⟨n, rfl, _⟩ := h
    rfl
  · obtain ⟨n, rfl, n0, n1, k⟩ := h
    refine ⟨_, (pss_one (ps_if (pt_not (pt_val (pe_df D_is_count (hr.mono (by decide)) (by rfl) (pa_cons (pv 0) pa_nil)))) (pss_one ps_never) pss_nil)), ?_⟩
    exact ⟨_, rfl, n, rfl, n0, n1, true, rfl, iteF k⟩
abbrev s_ladder_limit : Stmt := top 58
theorem sc_ladder_limit : FnScope ["matrix", "a", "b", "c", "d"] ["matrix"] (defScope s_ladder_limit) := ⟨rfl, rfl, rfl, by decide +kernel, rfl, by decide +kernel, by decide +kernel⟩

theorem ok_lim {f : Addr} {fd : FuncData} (F : Fun K "ladder_limit" "ladder_limit" s_ladder_limit f fd) (T : Txt4 K mg tG t1 t2 t3 tP tC aO aW J C Ce Cl) (X_exact : ExD P w K mg base Ce) : FnOk P w K mg base CX0 7 f fd ["matrix"] (spLim aO Ce) := by
  refine F.ok sc_ladder_limit (fun vs H Q E h => ?_) (fun cdv A outer s H vs Q E hr h => ?_)
  · obtain ⟨a, r, rfl, _⟩ := h
    rfl
  · obtain ⟨a, r, rfl, ha, hok, l8, k⟩ := h
    refine ⟨_, (pss_cons (ps_asg (pv 0) (pg_tup rfl (pgs_cons (pg_name (i := 1) sc_ladder_limit.nd rfl (.inl rfl)) (pgs_cons (pg_name (i := 2) sc_ladder_limit.nd rfl (.inl rfl)) (pgs_cons (pg_name (i := 3) sc_ladder_limit.nd rfl (.inl rfl)) (pgs_cons (pg_name (i := 4) sc_ladder_limit.nd rfl (.inl rfl)) pgs_nil))))))
      (pss_cons (ps_if (pt_cmpR op_eq (pv 3) pe_int (nomark _)) (pss_one (ps_ret (pe_glob (v := .ref aO) rfl T.mgO rfl))) pss_nil)
      (pss_cons (ps_if (pt_cmpR op_eq (pv 2) pe_int (nomark _)) (pss_one (ps_ret (pe_exact X_exact (hr.mono (by decide)) rfl T.mgE (pa_cons pe_int (pa_cons pe_int (pa_cons pe_int pa_nil)))))) pss_nil)
      (pss_one (ps_ret (pe_exact X_exact (hr.mono (by decide)) rfl T.mgE (pa_cons (pv 3) (pa_cons (pe_op op_sub (pv 4) (pv 1)) (pa_cons (pv 2) pa_nil))))))))), ?_⟩
    obtain ⟨a0, a1, b0, b1, c0, c1, d0, d1⟩ := matR_le hok l8
    refine ⟨_, rfl, a, _, rfl, SqT.of ha, rfl, _, _, rfl, _, _, rfl, _, _, rfl, _, _, rfl, rfl, ?_⟩
    refine ⟨_, rfl, rfl, _, rfl, ite2 (fun e => ?_) (fun e => ?_)⟩
    · exact k _ _ (Same.refl _) (.inl ⟨V.int.inj (of_decide_eq_true e), rfl⟩)
    have cn : (matR r).c ≠ 0 := fun z => e (decide_eq_true (congrArg V.int z))
    refine ⟨_, rfl, rfl, _, rfl, ite2 (fun e2 => ?_) (fun e2 => ?_)⟩
    · have bz : (matR r).b = 0 := V.int.inj (of_decide_eq_true e2)
      exact make_lim ⟨.inl ⟨rfl, by decide, by decide⟩, by decide, by decide, by decide, by decide⟩ cn (by unfold eqL; rw [if_pos bz, parts010]) k
    · have bn : (matR r).b ≠ 0 := fun z => e2 (decide_eq_true (congrArg V.int z))
      refine ⟨_, rfl, _, rfl, _, rfl, _, _, rfl, rfl, _, rfl, ?_⟩
      exact make_lim ⟨.inr ⟨by omega, by omega⟩, by omega, by omega, by omega, by omega⟩ cn (by unfold eqL; rw [if_neg bn]) k
abbrev s_Ladder_init : Stmt := inClass (top 57) 0
theorem sc_Ladder_init : FnScope ["self", "pattern", "load"] ["self", "pattern", "load"] (defScope s_Ladder_init) := ⟨rfl, rfl, rfl, by decide +kernel, rfl, by decide +kernel, by decide +kernel⟩

theorem ok_lad {f : Addr} {fd : FuncData} (F : Fun K "__init__" "Ladder.__init__" s_Ladder_init f fd) (T : Txt4 K mg tG t1 t2 t3 tP tC aO aW J C Ce Cl) (D_check_pattern : Df P w K mg base 1 "check_pattern" ["value"] (spChkP C)) (D_check_resistance : Df P w K mg base 4 "check_resistance" ["value"] spChkR) (D_lowest_pair : Df P w K mg base 3 "lowest_pair" ["fraction_or_open"] spLowP) (D_ladder_limit : Df P w K mg base 7 "ladder_limit" ["matrix"] (spLim aO Ce)) :
    FnOk P w K mg base CX0 8 f fd ["self", "pattern", "load"] (spLad C aO Ce Cl) := by
  refine F.ok sc_Ladder_init (fun vs H Q E h => ?_) (fun cdv A outer s H vs Q E hr h => ?_)
  · obtain ⟨x, dx, p, v, r, e, rfl, _⟩ := h
    rfl
  · obtain ⟨x, dx, p, v, r, e, rfl, hx, hP, hok, l8, hL, k⟩ := h
    refine ⟨_, (pss_cons (ps_expr (pe_df D_check_pattern (hr.mono (by decide)) (by rfl) (pa_cons (pv 1) pa_nil)))
      (pss_cons (ps_expr (pe_df D_check_resistance (hr.mono (by decide)) (by rfl) (pa_cons (pv 2) pa_nil)))
      (pss_cons (ps_fld (pv 0) (pv 1) rfl)
      (pss_cons (ps_fld (pv 0) (pe_df D_lowest_pair (hr.mono (by decide)) (by rfl) (pa_cons (pv 2) pa_nil)) rfl)
      (pss_one (ps_fld (pv 0) (pe_df D_ladder_limit (hr.mono (by decide)) (by rfl) (pa_cons (pe_fld (pv 1) rfl) pa_nil)) rfl)))))), ?_⟩
    have ep := hL.pos
    obtain ⟨es1, es2⟩ := hL.sm
    have hP0 := hP
    obtain ⟨dp, q, m, f', ws, f1, f2, f3, f4, hp, hq, hw, hm, _⟩ := hP0
    have npx : p ≠ x := ne_of hp hx (by intro z; cases z)
    refine ⟨_, rfl, p, dp, _, rfl, hp, ?_⟩
    refine ⟨_, rfl, v, e, rfl, hL, ?_⟩
    have fin : ∀ (H1 H2 H3 : Hp) (t2 : Addr) (v3 : V), Same H H1 → Same (upd H1 x (.ins Cl dx [("section", .ref p)])) H2 → PairAt H2 t2 (low e) → Same (upd H2 x (.ins Cl dx [("section", .ref p), ("behind", .ref t2)])) H3 → LimAt aO Ce H3 v3 r →
        But x H (upd H3 x (.ins Cl dx (LF p t2 v3))) ∧ LadAt C aO Ce Cl (upd H3 x (.ins Cl dx (LF p t2 v3))) x r (low e) := fun H1 H2 H3 t2 v3 s1 s2 ht s3 hv => by
      have hx1 := s1 _ _ hx
      have hx2 := s2 _ _ (upd_same (H := H1) (a := x) (o := .ins Cl dx [("section", .ref p)]))
      have hx3 := s3 _ _ (upd_same (H := H2) (a := x) (o := .ins Cl dx [("section", .ref p), ("behind", .ref t2)]))
      have nt : ∀ {Hh : Hp} {fs : List (Str × V)}, Hh x = some (.ins Cl dx fs) → ∀ xs, Hh x ≠ some (.tup xs) := fun h xs z => by rw [h] at z; cases z
      have b1 : But x H1 (upd H1 x (.ins Cl dx [("section", .ref p)])) := But.upd
      have b2 : But x H2 (upd H2 x (.ins Cl dx [("section", .ref p), ("behind", .ref t2)])) := But.upd
      have b3 : But x H3 (upd H3 x (.ins Cl dx (LF p t2 v3))) := But.upd
      have P1 := ((hP.same s1).butX (nt hx1) npx b1).same s2
      have P3 := (P1.butX (nt hx2) npx b2).same s3
      have t2x : t2 ≠ x := ne_of ht hx2 (by intro z; cases z)
      have ht3 : PairAt H3 t2 (low e) := s3 _ _ (b2 _ _ t2x ht)
      refine ⟨((((But.of s1).trans b1).trans (But.of s2)).trans b2).trans ((But.of s3).trans b3), dx, p, t2, v3, upd_same, P3.butX (nt hx3) npx b3, b3 _ _ t2x ht3, ?_⟩
      rcases hv with hv | ⟨hc, y, ey, dy, py, hy, hpy⟩
      · exact .inl hv
      · have : y ≠ x := fun z => by
          rw [z, hx3] at hy
          cases hy
        exact .inr ⟨hc, y, ey, dy, py, b3 _ _ this hy, b3 _ _ (ne_of hpy hx3 (by intro z; cases z)) hpy⟩
    have s1 : Same H H := Same.refl _
    refine ⟨_, rfl, _, rfl, x, Cl, dx, _, rfl, hx, T.clL, T.nSec, (by show 0 < 1000; decide), ?_⟩
    have hv1 : (∃ i, v = .int i ∧ e = (i, 1)) ∨ (∃ p', v = .ref p' ∧ (upd H x (.ins Cl dx [("section", .ref p)])) p' = some (.tup [.int e.1, .int e.2])) := by
      rcases hL with ⟨i, rfl, i0, i1, rfl⟩ | ⟨t, rfl, ht, hR⟩
      · exact .inl ⟨i, rfl, rfl⟩
      · refine .inr ⟨t, rfl, ?_⟩
        rw [upd_ne (ne_of ht hx (by intro z; cases z))]
        exact ht
    refine ⟨_, rfl, _, e, rfl, hv1, ep, es1.mono (by decide), es2.mono (by decide), fun H2 t2 s2 nt2 ht2 => ?_⟩
    have hx2 := s2 _ _ (upd_same (H := H) (a := x) (o := .ins Cl dx [("section", .ref p)]))
    refine ⟨_, rfl, x, Cl, dx, _, rfl, hx2, T.clL, T.nBeh, (by show 1 < 1000; decide), ?_⟩
    rw [putB]
    have hp3 : (upd H2 x (.ins Cl dx [("section", .ref p), ("behind", .ref t2)])) p = some (.ins C dp (PF q m f' (sclR r))) := by
      rw [upd_ne npx]
      refine s2 _ _ ?_
      rw [upd_ne npx]
      exact hp
    have hm3 : (upd H2 x (.ins Cl dx [("section", .ref p), ("behind", .ref t2)])) m = some (.tup (MatT (matR r))) := by
      have nmx : m ≠ x := ne_of hm hx (by intro z; cases z)
      rw [upd_ne nmx]
      refine s2 _ _ ?_
      rw [upd_ne nmx]
      exact hm
    refine ⟨_, rfl, p, C, dp, _, _, rfl, hp3, T.cl, T.nMat, lkM _ _ _, m, r, rfl, hm3, hok, l8, fun H3 v3 s3 hv3 => ?_⟩
    refine ⟨_, rfl, x, Cl, dx, _, rfl, s3 _ _ upd_same, T.clL, T.nFar, (by show 2 < 1000; decide), ?_⟩
    rw [putFar]
    obtain ⟨z1, z2⟩ := fin H H2 H3 t2 v3 s1 s2 ht2 s3 hv3
    exact k _ z1 z2
abbrev s_Ladder_after : Stmt := inClass (top 57) 3
theorem sc_Ladder_after : FnScope ["self", "pair"] ["self", "pair"] (defScope s_Ladder_after) := ⟨rfl, rfl, rfl, by decide +kernel, rfl, by decide +kernel, by decide +kernel⟩

theorem ok_after {f : Addr} {fd : FuncData} (F : Fun K "after" "Ladder.after" s_Ladder_after f fd) (T : Txt4 K mg tG t1 t2 t3 tP tC aO aW J C Ce Cl) (D_shown_before : Df P w K mg base 1 "shown_before" ["matrix", "pair"] spShown) : FnOk P w K mg base CX0 2 f fd ["self", "pair"] (spAfter C aO Ce Cl) := by
  refine F.ok sc_Ladder_after (fun vs H Q E h => ?_) (fun cdv A outer s H vs Q E hr h => ?_)
  · obtain ⟨x, t, r, e, e', rfl, _⟩ := h
    rfl
  · obtain ⟨x, t, r, e, e', rfl, ⟨dx, p, q, v, hx, hP, hq, hv⟩, ht, hok, l8, es1, es2, k⟩ := h
    refine ⟨_, (pss_one (ps_ret (pe_df D_shown_before (hr.mono (by decide)) (by rfl) (pa_cons (pe_fld (pe_fld (pv 0) rfl) rfl) (pa_cons (pv 1) pa_nil))))), ?_⟩
    obtain ⟨dp, q', m, f', ws, f1, f2, f3, f4, hp, hq', hw, hm, _⟩ := hP
    exact ⟨_, rfl, x, Cl, dx, _, _, rfl, hx, T.clL, T.nSec, lkS _ _ _, p, C, dp, _, _, rfl, hp, T.cl, T.nMat, lkM _ _ _, _, rfl, m, t, matR r, _, rfl, hm, ht, (matR_sm30 hok l8).mono (by decide), es1, es2, k⟩
abbrev s_Ladder_call : Stmt := inClass (top 57) 1
theorem sc_Ladder_call : FnScope ["self", "count", "pair", "number"] ["self", "count"] (defScope s_Ladder_call) := ⟨rfl, rfl, rfl, by decide +kernel, rfl, by decide +kernel, by decide +kernel⟩

theorem ok_lcall {f : Addr} {fd : FuncData} (F : Fun K "__call__" "Ladder.__call__" s_Ladder_call f fd) (T : Txt4 K mg tG t1 t2 t3 tP tC aO aW J C Ce Cl) (D_check_count : Df P w K mg base 4 "check_count" ["value"] spChkC) (M_after : Mt P w K mg base Cl 2 "after" "self" "pair" (spAfter C aO Ce Cl)) (D_lowest_pair : Df P w K mg base 3 "lowest_pair" ["fraction_or_open"] spLowP) : FnOk P w K mg base CX0 5 f fd ["self", "count"] (spLCall C aO Ce Cl) := by
  refine F.ok sc_Ladder_call (fun vs H Q E h => ?_) (fun cdv A outer s H vs Q E hr h => ?_)
  · obtain ⟨x, n, r, e, rfl, _⟩ := h
    rfl
  · obtain ⟨x, n, r, e, rfl, hLd, hok, l8, ep, es1, es2, n0, n1, k⟩ := h
    refine ⟨_, (pss_cons (ps_expr (pe_df D_check_count (hr.mono (by decide)) (by rfl) (pa_cons (pv 1) pa_nil)))
      (pss_cons (ps_set (i := 2) sc_Ladder_call.nd rfl (.inl rfl) (pe_fld (pv 0) rfl))
      (pss_cons (ps_for PassesOwn.never rfl (pi_range1 rfl T.range (pa_cons (pv 1) pa_nil)) (pg_name (i := 3) sc_Ladder_call.nd rfl (.inl rfl)) (pss_one (ps_set (i := 2) sc_Ladder_call.nd rfl (.inl rfl) (pe_dm (pv 0) T.clL M_after (hr.mono (by decide)) (pa_cons (pv 2) pa_nil)))))
      (pss_one (ps_ret (pe_df D_lowest_pair (hr.mono (by decide)) (by rfl) (pa_cons (pv 2) pa_nil))))))), ?_⟩
    obtain ⟨dx, p, q, v, hx, hP, hq, hv⟩ := id hLd
    refine ⟨_, rfl, n, rfl, n0, n1, ?_⟩
    refine ⟨_, rfl, x, Cl, dx, _, _, rfl, hx, T.clL, T.nBeh, lkB _ _ _, ?_⟩
    refine ⟨_, rfl, n, rfl, by omega, by omega, ?_⟩
    refine for_range (lo := 0) (n := n.toNat) (fun i σ H' => Same H H' ∧ ∃ (t : Addr) (v1 : Option V), σ = [some (.ref x), some (.int n), some (.ref t), v1] ∧ PairAt H' t (appN (matR r) i e)) ⟨Same.refl _, q, none, rfl, hq⟩ ?_ ?_
    · rintro i σ H' hi ⟨s1, t, v1, rfl, ht⟩
      obtain ⟨a1, a2⟩ := appN_sm hok l8 es1 es2 i
      refine ⟨_, rfl, x, dx, _, rfl, s1 _ _ hx, lkAf _ _ _, _, rfl, x, t, r, e, _, rfl, hLd.same s1, ht, hok, l8, a1.mono (by omega), a2.mono (by omega), fun H2 p2 s2 np2 hp2 => ?_⟩
      exact ⟨s1.trans s2, p2, _, rfl, hp2⟩
    · rintro σ H' ⟨s1, t, v1, rfl, ht⟩
      obtain ⟨a1, a2⟩ := appN_sm hok l8 es1 es2 n.toNat
      exact ⟨_, rfl, _, _, rfl, .inr ⟨t, rfl, ht⟩, appN_pos hok ep _, a1.mono (by omega), a2.mono (by omega), fun H2 p2 s2 np2 hp2 => k _ p2 (s1.trans s2) (s1.free np2) hp2⟩
abbrev s_Ladder_goes : Stmt := inClass (top 57) 5
theorem sc_Ladder_goes : FnScope ["self"] ["self"] (defScope s_Ladder_goes) := ⟨rfl, rfl, rfl, by decide +kernel, rfl, by decide +kernel, by decide +kernel⟩

theorem ok_goes {f : Addr} {fd : FuncData} (F : Fun K "goes" "Ladder.goes" s_Ladder_goes f fd) (T : Txt4 K mg tG t1 t2 t3 tP tC aO aW J C Ce Cl) (D_pair_order : Df P w K mg base 2 "pair_order" ["first", "second"] spPO) (M_after : Mt P w K mg base Cl 2 "after" "self" "pair" (spAfter C aO Ce Cl)) : FnOk P w K mg base CX0 3 f fd ["self"] (spGoes C aO Ce Cl) := by
  refine F.ok sc_Ladder_goes (fun vs H Q E h => ?_) (fun cdv A outer s H vs Q E hr h => ?_)
  · obtain ⟨x, r, e, rfl, _⟩ := h
    rfl
  · obtain ⟨x, r, e, rfl, hLd, hok, l8, es1, es2, k⟩ := h
    refine ⟨_, (pss_one (ps_ret (pe_df D_pair_order (hr.mono (by decide)) (by rfl) (pa_cons (pe_dm (pv 0) T.clL M_after (hr.mono (by decide)) (pa_cons (pe_fld (pv 0) rfl) pa_nil)) (pa_cons (pe_fld (pv 0) rfl) pa_nil))))), ?_⟩
    obtain ⟨dx, p, q, v, hx, hP, hq, hv⟩ := id hLd
    obtain ⟨a1, a2⟩ := app_sm (matR_sm30 hok l8) es1 es2
    refine ⟨_, rfl, x, dx, _, rfl, hx, lkAf _ _ _, _, rfl, x, Cl, dx, _, _, rfl, hx, T.clL, T.nBeh, lkB _ _ _, x, q, r, e, _, rfl, hLd, hq, hok, l8, es1.mono (by decide), es2.mono (by decide), fun H2 p2 s2 np2 hp2 => ?_⟩
    exact ⟨_, rfl, x, Cl, dx, _, _, rfl, s2 _ _ hx, T.clL, T.nBeh, lkB _ _ _, p2, q, _, _, rfl, hp2, s2 _ _ hq, a1.mono (by decide), a2.mono (by decide), es1.mono (by decide), es2.mono (by decide), k _ s2⟩
abbrev s_Ladder_limit : Stmt := inClass (top 57) 6
theorem sc_Ladder_limit : FnScope ["self"] ["self"] (defScope s_Ladder_limit) := ⟨rfl, rfl, rfl, by decide +kernel, rfl, by decide +kernel, by decide +kernel⟩

theorem ok_limit {f : Addr} {fd : FuncData} (F : Fun K "limit" "Ladder.limit" s_Ladder_limit f fd) (T : Txt4 K mg tG t1 t2 t3 tP tC aO aW J C Ce Cl) : FnOk P w K mg base CX0 1 f fd ["self"] (spLimit C aO Ce Cl) := by
  refine F.ok sc_Ladder_limit (fun vs H Q E h => ?_) (fun cdv A outer s H vs Q E hr h => ?_)
  · obtain ⟨x, r, e, rfl, _⟩ := h
    rfl
  · obtain ⟨x, r, e, rfl, ⟨dx, p, q, v, hx, hP, hq, hv⟩, k⟩ := h
    refine ⟨_, (pss_one (ps_ret (pe_fld (pv 0) rfl))), ?_⟩
    exact ⟨_, rfl, x, Cl, dx, _, _, rfl, hx, T.clL, T.nFar, lkFar _ _ _, k _ hv⟩
end
end RL

set_option maxHeartbeats 1000000
namespace RL
open PySem L2 PySem.Spec PyProof.Rows
theorem sm_small {x : Int} (h0 : 0 ≤ x) (h1 : x ≤ 1000) : Sm 200 x := (sm_lt (n := 10) h0 (by show x < 1024; omega)).mono (by decide)
theorem cut_to' {ws : List V} {i : Nat} (h : i ≤ ws.length) : cutV ws none (some (i : Int)) = ws.take i := by
  unfold cutV
  rw [HT.sIx_none, HT.sIx_nat, Nat.min_eq_left (by omega), Nat.sub_zero, List.drop_zero]
theorem cut_from' {ws : List V} {i : Nat} (h : i ≤ ws.length) : cutV ws (some (i : Int)) none = ws.drop i := by
  unfold cutV
  rw [HT.sIx_none, HT.sIx_nat, Nat.min_eq_left h, List.take_of_length_le (by rw [List.length_drop]; omega)]
theorem PiecesAt.take {H : Hp} {vs : List V} {r : List Pc} (h : PiecesAt H vs r) (n : Nat) : PiecesAt H (vs.take n) (r.take n) := by
  refine ⟨by rw [List.length_take, List.length_take, h.1], fun i p hp => ?_⟩
  rw [List.getElem?_take] at hp
  split at hp
  · rename_i q
    obtain ⟨v, hv, z⟩ := h.2 i p hp
    exact ⟨v, by rw [List.getElem?_take, if_pos q]; exact hv, z⟩
  · cases hp
theorem PiecesAt.drop {H : Hp} {vs : List V} {r : List Pc} (h : PiecesAt H vs r) (n : Nat) : PiecesAt H (vs.drop n) (r.drop n) := by
  refine ⟨by rw [List.length_drop, List.length_drop, h.1], fun i p hp => ?_⟩
  rw [List.getElem?_drop] at hp
  obtain ⟨v, hv, z⟩ := h.2 _ p hp
  exact ⟨v, by rw [List.getElem?_drop]; exact hv, z⟩
theorem RowOk.take {r : List Pc} (h : RowOk r) (n : Nat) : RowOk (r.take n) := fun p hp => h p (List.mem_of_mem_take hp)
theorem RowOk.drop {r : List Pc} (h : RowOk r) (n : Nat) : RowOk (r.drop n) := fun p hp => h p (List.mem_of_mem_drop hp)
theorem RowOk.one {p : Pc} (h : PcOk p) : RowOk [p] := fun q hq => by
  rw [List.mem_singleton] at hq
  rw [hq]
  exact h
theorem pcs1 {H : Hp} {t : Addr} {r : Bool} {o : Int} (h : H t = some (.tup [.str (wd r), .int o])) : PiecesAt H [.ref t] [(r, o)] := ⟨rfl, fun j p hj => by
  match j, hj with
  | 0, hj =>
    cases hj
    exact ⟨_, rfl, t, rfl, h⟩⟩
def Mixed (r : List Pc) : Prop := (∃ p ∈ r, p.1 = true) ∧ ∃ p ∈ r, p.1 = false
def spMixed : Sp := fun vs H Q _ => ∃ (c : Addr) (m : Int), vs = [.ref c, .int m] ∧ CupAt c H ∧ 2 ≤ m ∧ m ≤ 8 ∧
  ∀ H' a r, But c H H' → CupAt c H' → a ≠ c → RowL H' a r → RowOk r → 1 ≤ r.length → (r.length : Int) ≤ m → Mixed r → Q (.ref a) H'
def spFour : Sp := fun vs H Q _ => ∃ (a : Addr) (r : List Pc), vs = [.ref a] ∧ RowL H a r ∧ RowOk r ∧ r.length ≤ 8 ∧
  ∀ H' p, Same H H' → H p = none → H' p = some (.tup [.int (matR r).a, .int (matR r).b, .int (matR r).c, .int (matR r).d, .int (sclR r)]) → Q (.ref p) H'
def dueL (r : List Pc) : List V := if (matR r).c = 0 then [.int 1, .int 0] else [.int (eqL r).1, .int (eqL r).2.1, .int (eqL r).2.2]
def spDue : Sp := fun vs H Q _ => ∃ (a : Addr) (r : List Pc), vs = [.ref a] ∧ RowL H a r ∧ RowOk r ∧ r.length ≤ 8 ∧ ∀ H' p, Same H H' → H' p = some (.tup (dueL r)) → Q (.ref p) H'
theorem matR_big {r : List Pc} (hok : RowOk r) (l8 : r.length ≤ 8) : Sm 133 (matR r).c ∧ Sm 133 ((matR r).d - (matR r).a) ∧ Sm 133 (matR r).b := by
  obtain ⟨a, b, c, d⟩ := matR_sm30 hok l8
  exact ⟨c.mono (by decide), (d.sub a).mono (by decide), b.mono (by decide)⟩
section
variable {P : Program} {w : World} {K : PySem.W.Frag} {mg : Str → Option Value} {base : Heap} {tG t1 t2 t3 tP tC : Tok} {aO aW J C Ce Cl fP fJ : Addr} {fdJ : FuncData}
end
end RL

set_option maxHeartbeats 2000000
namespace RL
open PySem L2 PySem.Spec PyProof.Rows
def prD (e : Int × Int) : PyData := .tuple [.int e.1, .int e.2]
theorem eqL_sm {r : List Pc} (hok : RowOk r) (l8 : r.length ≤ 8) (cn : (matR r).c ≠ 0) : Sm 200 (eqL r).1 ∧ Sm 200 (eqL r).2.1 ∧ Sm 200 (eqL r).2.2 := by
  obtain ⟨a0, a1, b0, b1, c0, c1, d0, d1⟩ := matR_le hok l8
  obtain ⟨m1, m2, m3⟩ := matR_big hok l8
  unfold eqL
  split
  · exact ⟨by unfold Sm; decide, by unfold Sm; decide, by unfold Sm; decide⟩
  · rename_i bn
    obtain ⟨p1, p2, p3⟩ := parts_sm (.inr ⟨by omega, by omega⟩) m1 m2 m3
    exact ⟨p1.mono (by decide), p2.mono (by decide), p3.mono (by decide)⟩
theorem make_lad {C aO Ce Cl : Addr} {H : Hp} {x z dz : Addr} {v : V} {r : List Pc} {e : Int × Int} {Q : Hp → Prop} (nz : H z = none) (ndz : H dz = none) (hx : PatAt C H x r) (hok : RowOk r) (l8 : r.length ≤ 8) (hL : LoadAt H v e) (k : ∀ H', Same H H' → LadAt C aO Ce Cl H' z r (low e) → Q H') :
    spLad C aO Ce Cl [.ref z, .ref x, v] (upd (upd H dz (.own z)) z (.ins Cl dz [])) (fun v H3 => v = .non ∧ Q H3) E0 := by
  have s0 : Same H (upd (upd H dz (.own z)) z (.ins Cl dz [])) := fun b o e => by
    rw [upd_ne (ne_of_none e nz), upd_ne (ne_of_none e ndz)]
    exact e
  refine ⟨z, dz, x, v, r, e, rfl, upd_same, hx.same s0, hok, l8, ?_, fun H' bz hE => ⟨rfl, k H' (fun b' o e => bz _ _ (ne_of_none e nz) (s0 _ _ e)) hE⟩⟩
  rcases hL with ⟨i, e1, h1, h2, h3⟩ | ⟨p, e1, hp, hR⟩
  · exact .inl ⟨i, e1, h1, h2, h3⟩
  · exact .inr ⟨p, e1, s0 _ _ hp, hR⟩
theorem LadAt.ins {C aO Ce Cl : Addr} {H : Hp} {x : Addr} {r : List Pc} {e : Int × Int} (h : LadAt C aO Ce Cl H x r e) : ∃ dx fs, H x = some (.ins Cl dx fs) := by
  obtain ⟨dx, p, q, v, h1, _⟩ := h
  exact ⟨dx, _, h1⟩
def spRight : Sp := fun vs H Q _ => ∃ c : Addr, vs = [.ref c] ∧ CupAt c H ∧ ∀ H', But c H H' → Q (.bl true) H'
theorem ne_selfB (v : V) : ¬ (!decide (v = v)) = true := by
  rw [decide_eq_true rfl]
  decide
end RL
namespace PySem
section
variable {prog : Program} {w : World} {A : Around} {E : Value → Shared → Prop} {s : Shared} {l : Addr} {xs : Array (Int × Tok)}
end
end PySem
namespace RL
open PySem L2 PyProof.Rows
def rMaxT (K : PySem.W.Frag) : List V → Hp → VK → Prop := fun vs H Q => ∃ (a : Addr) (ns : List Int), vs = [V.ref a] ∧ SqT K H a (ns.map V.int) ∧ 0 < ns.length ∧ ∀ m, m ∈ ns → (∀ y, y ∈ ns → y ≤ m) → Q (.int m) H
end RL

set_option maxHeartbeats 2000000
namespace RL
open PySem L2 PySem.Spec PyProof.Rows
theorem op_or2 {X : Cx} {f : Value → Value → Sem Value} {r1 r2 : R2} (h1 : OpR X f r1) (h2 : OpR X f r2) : OpR X f (fun x y H Q => r1 x y H Q ∨ r2 x y H Q) := by
  intro pins s σ H x y v u Q I rx ry h
  rcases h with h | h
  · exact h1 pins s σ H x y v u Q I rx ry h
  · exact h2 pins s σ H x y v u Q I rx ry h
theorem pi_listK {X : Cx} {K : PySem.W.Frag} {tg l : Expr} {tl : TE} (hl : PE X l tl) (hK : X.K = K := by rfl) : PI X tg l (iList K tl) := by
  subst hK
  exact pi_list hl
theorem ix_listK {X : Cx} {K : PySem.W.Frag} (hK : X.K = K := by rfl) : IxR X (rIxL K) := by
  subst hK
  exact ix_list
def ParAt (H : Hp) (z : Addr) (S L W : Int) : Prop := H z = some (.tup [.int S, .int L, .int W])
abbrev PrT (K : PySem.W.Frag) (H : Hp) (p : Addr) (e : Int × Int) : Prop := SqT K H p [.int e.1, .int e.2]
def spPOK (K : PySem.W.Frag) : Sp := fun vs H Q _ => ∃ (p q : Addr) (e f : Int × Int), vs = [.ref p, .ref q] ∧ PrT K H p e ∧ PrT K H q f ∧ Sm 200 e.1 ∧ Sm 200 e.2 ∧ Sm 200 f.1 ∧ Sm 200 f.2 ∧ Q (.int (sgn (e.1 * f.2 - f.1 * e.2))) H
def spDiff : Sp := fun vs H Q _ => ∃ (p q : Addr) (m n : Mx), vs = [.ref p, .ref q] ∧ H p = some (.tup (MatT m)) ∧ H q = some (.tup (MatT n)) ∧ MxSm 30 m ∧ MxSm 30 n ∧ ∀ H' z, Same H H' → ParAt H' z (qS m n) (qL m n) (qW m n) → Q (.ref z) H'
def spSAt (K : PySem.W.Frag) : Sp := fun vs H Q _ => ∃ (z p : Addr) (S L W : Int) (e : Int × Int), vs = [.ref z, .ref p] ∧ ParAt H z S L W ∧ PrT K H p e ∧ Sm 70 S ∧ Sm 70 L ∧ Sm 70 W ∧ Sm 200 e.1 ∧ Sm 200 e.2 ∧ Q (.int (sgn (qv S L W e))) H
def spFar : Sp := fun vs H Q _ => ∃ (z : Addr) (S L W : Int), vs = [.ref z] ∧ ParAt H z S L W ∧ Q (.int (farS S L W)) H
def spFrom (K : PySem.W.Frag) : Sp := fun vs H Q _ => ∃ (z p : Addr) (S L W : Int) (e : Int × Int), vs = [.ref z, .ref p] ∧ ParAt H z S L W ∧ PrT K H p e ∧ e.2 ≠ 0 ∧ Sm 70 S ∧ Sm 70 L ∧ Sm 70 W ∧ Sm 200 e.1 ∧ Sm 200 e.2 ∧ Q (.int (sgn (qv S L W e))) H
def spTow (aO : Addr) : Sp := fun vs H Q _ => ∃ (z : Addr) (S L W : Int), vs = [.ref z, .ref aO] ∧ ParAt H z S L W ∧ Q (.int (farS S L W)) H
def spLB (K : PySem.W.Frag) (aO : Addr) : Sp := fun vs H Q _ => ∃ (p : Addr) (e : Int × Int), vs = [.ref aO, .ref p] ∧ PrT K H p e ∧ Sm 200 e.1 ∧ Sm 200 e.2 ∧ Q (.int (sgn (1 * e.2 - e.1 * 0))) H
def spNB (aO : Addr) : Sp := fun vs H Q _ => ∃ (z p : Addr) (S L W : Int), vs = [.ref z, .ref p, .ref aO] ∧ ParAt H z S L W ∧ PairAt H p (0, 1) ∧ Sm 70 S ∧ Sm 70 L ∧ Sm 70 W ∧ ∀ H', Same H H' → Q (.bl (nbB S L W)) H'
def nmB (r r' : List Pc) : Bool := nbB (qS (matR r') (matR r)) (qL (matR r') (matR r)) (qW (matR r') (matR r))
def spNM (C : Addr) : Sp := fun vs H Q _ => ∃ (x y : Addr) (r r' : List Pc), vs = [.ref x, .ref y] ∧ PatAt C H x r ∧ PatAt C H y r' ∧ RowOk r ∧ RowOk r' ∧ r.length ≤ 8 ∧ r'.length ≤ 8 ∧ ∀ H', Same H H' → Q (.bl (nmB r r')) H'
def spBeside : Sp := fun vs H Q _ => ∃ (p : Addr) (s l w x y : Int), vs = [.ref p, .int x, .int y] ∧ H p = some (.tup [.int s, .int l, .int w]) ∧ Sm 1000 s ∧ Sm 1000 l ∧ Sm 1000 w ∧ Sm 1000 x ∧ Sm 1000 y ∧ Q (.int (beside s l w x y)) H
def spSal0 : Sp := fun vs H Q _ => ∃ (p : Addr) (s l w sl h : Int), vs = [.ref p, .int sl, .int h] ∧ H p = some (.tup [.int s, .int l, .int w]) ∧ 0 ≤ sl ∧ Sm 1000 s ∧ Sm 1000 l ∧ Sm 1000 w ∧ Sm 1000 sl ∧ Sm 1000 h ∧ Q (.int (sal0 s l w sl h)) H
def spSal : Sp := fun vs H Q _ => ∃ (p : Addr) (s l w sl h : Int), vs = [.ref p, .int sl, .int h] ∧ H p = some (.tup [.int s, .int l, .int w]) ∧ Sm 1000 s ∧ Sm 1000 l ∧ Sm 1000 w ∧ Sm 1000 sl ∧ Sm 1000 h ∧ Q (.int (sal s l w sl h)) H
def spOrder (C : Addr) : Sp := fun vs H Q _ => ∃ (x y : Addr) (s l w s' l' w' : Int), vs = [.ref x, .ref y] ∧ ExAt C H x s l w ∧ ExAt C H y s' l' w' ∧ Sm 200 s ∧ Sm 200 l ∧ Sm 200 w ∧ Sm 200 s' ∧ Sm 200 l' ∧ Sm 200 w' ∧ Q (.int (ord s l w s' l' w')) H
def D4 (r : List Pc) : PyData := .tuple [.tuple [.int (fourOf r).1.1, .int (fourOf r).1.2], .tuple [.int (fourOf r).2.1.1, .int (fourOf r).2.1.2], .tuple [.int (fourOf r).2.2.1.1, .int (fourOf r).2.2.1.2], .tuple [.int (fourOf r).2.2.2.1, .int (fourOf r).2.2.2.2]]
theorem eqv_D4 (r r' : List Pc) : PyData.eqv (D4 r) (D4 r') = decide (fourOf r = fourOf r') := by
  rw [Bool.eq_iff_iff]
  simp [D4, PyData.eqv, PyData.eqvAll, Prod.ext_iff, and_assoc]
theorem sh_D4 (r : List Pc) : SeqAt.shaped (D4 r) = true := by
  simp [D4, SeqAt.shaped, PyData.canLay0, PyData.canLayAll0, PyData.depth, PyData.depthAll]
theorem dp_D4 {K : PySem.W.Frag} {C : Addr} {H : Hp} {x : Addr} {r : List Pc} (h : PatAt C H x r) : ∃ dx q m f, H x = some (.ins C dx (PF q m f (sclR r))) ∧ Dp K H (.ref f) (D4 r) := by
  obtain ⟨dx, q, m, f, ws, f1, f2, f3, f4, h1, h2, h3, h4, h5, h6, h7, h8, h9⟩ := h
  have dp : ∀ {t : Addr} {z s : Int}, FrAt H t z s → Dp K H (.ref t) (.tuple [.int (low (z, s)).1, .int (low (z, s)).2]) := fun h => .tup (SqT.of h) (.cons (.int _) (.cons (.int _) .nil))
  exact ⟨dx, q, m, f, h1, .tup (SqT.of h5) (.cons (dp h6) (.cons (dp h7) (.cons (dp h8) (.cons (dp h9) .nil))))⟩
def spEqP (C : Addr) : Sp := fun vs H Q _ => ∃ (x y : Addr) (r r' : List Pc), vs = [.ref x, .ref y] ∧ PatAt C H x r ∧ PatAt C H y r' ∧ Q (.bl (decide (fourOf r = fourOf r'))) H
structure OwE (P : Program) (w : World) (K : PySem.W.Frag) (mg : Str → Option Value) (base : Heap) (C g : Addr) (fd : FuncData) : Prop where
  e_at : PySem.W.findIn K (.ref C) "__eq__" = some (some (.ref g))
  e_fn : PySem.W.isFn K (.ref g) = true
  ok : FnOk P w K mg base CX0 1 g fd ["self", "other"] (spEqP C)
  b : Binds K fd ["self", "other"] []
  n_at : PySem.W.findIn K (.ref C) "__ne__" = some (some (.builtin "object.__ne__"))
  n_sub : PySem.W.subIn K (.ref C) (.type "object") = some true
theorem q_sm {m n : Mx} (hm : MxSm 30 m) (hn : MxSm 30 n) : Sm 63 (qS m n) ∧ Sm 63 (qL m n) ∧ Sm 63 (qW m n) := by
  obtain ⟨a, b, c, d⟩ := hm
  obtain ⟨a', b', c', d'⟩ := hn
  refine ⟨?_, ?_, ?_⟩
  · exact (Sm.sub (a.mul c') (a'.mul c)).mono (by decide)
  · exact (Sm.sub (Sm.sub (Sm.add (a.mul d') (b.mul c')) ((a'.mul d).mono (by decide))) ((b'.mul c).mono (by decide))).mono (by decide)
  · exact (Sm.sub (b.mul d') (b'.mul d)).mono (by decide)
theorem qv_01 (S L W : Int) : qv S L W (0, 1) = W := by
  unfold qv
  dsimp
  simp
def spEqT (Ce : Addr) : Sp := fun vs H Q _ => ∃ (x p dx : Addr) (fs : List (Str × V)) (e : Int × Int), vs = [.ref x, .ref p] ∧ H x = some (.ins Ce dx fs) ∧ PairAt H p e ∧ Q (.bl false) H
structure OwX (P : Program) (w : World) (K : PySem.W.Frag) (mg : Str → Option Value) (base : Heap) (C g : Addr) (fd : FuncData) : Prop where
  e_at : PySem.W.findIn K (.ref C) "__eq__" = some (some (.ref g))
  e_fn : PySem.W.isFn K (.ref g) = true
  ok : FnOk P w K mg base CX0 1 g fd ["self", "other"] (spEqT C)
  b : Binds K fd ["self", "other"] []
  n_at : PySem.W.findIn K (.ref C) "__ne__" = some (some (.builtin "object.__ne__"))
  n_sub : PySem.W.subIn K (.ref C) (.type "object") = some true
  nf : PySem.W.notFirst K C (.type "tuple") = true
section
variable {P : Program} {w : World} {K : PySem.W.Frag} {mg : Str → Option Value} {base : Heap} {tG t1 t2 t3 tP tC : Tok} {aO aW J C Ce Cl fP fJ : Addr} {fdJ : FuncData}
abbrev s_beside_fraction : Stmt := top 52
theorem sc_beside_fraction : FnScope ["parts", "top", "bottom", "square", "line", "whole"] ["parts", "top", "bottom"] (defScope s_beside_fraction) := ⟨rfl, rfl, rfl, by decide +kernel, rfl, by decide +kernel, by decide +kernel⟩

theorem ok_beside {f : Addr} {fd : FuncData} (F : Fun K "beside_fraction" "beside_fraction" s_beside_fraction f fd) (D_sign : Df P w K mg base 1 "sign" ["number"] spSign) : FnOk P w K mg base CX0 2 f fd ["parts", "top", "bottom"] spBeside := by
  refine F.ok sc_beside_fraction (fun vs H Q E h => ?_) (fun cdv A outer s H vs Q E hr h => ?_)
  · obtain ⟨p, s, l, w, x, y, rfl, _⟩ := h
    rfl
  · obtain ⟨p, sq, l, w, x, y, rfl, hp, hs, hl, hw, hx, hy, k⟩ := h
    refine ⟨_, (pss_cons (ps_asg (pv 0) (pg_tup rfl (pgs_cons (pg_name (i := 3) sc_beside_fraction.nd rfl (.inl rfl)) (pgs_cons (pg_name (i := 4) sc_beside_fraction.nd rfl (.inl rfl)) (pgs_cons (pg_name (i := 5) sc_beside_fraction.nd rfl (.inl rfl)) pgs_nil)))))
      (pss_one (ps_ret (pe_df D_sign (hr.mono (by decide)) (by rfl) (pa_cons (pe_op op_sub (pe_op op_sub (pe_op op_mulX (pe_op op_mulX (pv 5) (pv 2)) (pv 2)) (pe_op op_mulX (pe_op op_mulX (pv 4) (pv 1)) (pv 2))) (pe_op op_mulX (pe_op op_mulX (pv 3) (pv 1)) (pv 1))) pa_nil))))), ?_⟩
    refine ⟨_, rfl, p, _, rfl, SqT.of hp, rfl, _, _, rfl, _, _, rfl, _, _, rfl, rfl, ?_⟩
    refine ⟨_, rfl, _, rfl, _, _, rfl, rfl, mx hw hy, _, rfl, _, _, rfl, rfl, mx (hw.mul hy) hy, _, rfl, _, rfl, _, _, rfl, rfl, mx hl hx, _, rfl, _, _, rfl, rfl, mx (hl.mul hx) hy, _, _, rfl, rfl, _, rfl, _, rfl, _, _, rfl, rfl, mx hs hx, _, rfl, _, _, rfl, rfl, mx (hs.mul hx) hx, _, _, rfl, rfl, _, rfl, ?_⟩
    exact k
abbrev s_sign_along_line : Stmt := top 53
theorem sc_sign_along_line : FnScope ["parts", "slope", "height"] ["parts", "slope", "height"] (defScope s_sign_along_line) := ⟨rfl, rfl, rfl, by decide +kernel, rfl, by decide +kernel, by decide +kernel⟩

theorem ok_sal0 {f : Addr} {fd : FuncData} (F : Fun K "sign_along_line" "sign_along_line" s_sign_along_line f fd) (D_sign : Df P w K mg base 1 "sign" ["number"] spSign) (D_beside_fraction : Df P w K mg base 2 "beside_fraction" ["parts", "top", "bottom"] spBeside) : FnOk P w K mg base CX0 3 f fd ["parts", "slope", "height"] spSal0 := by
  refine F.ok sc_sign_along_line (fun vs H Q E h => ?_) (fun cdv A outer s H vs Q E hr h => ?_)
  · obtain ⟨p, sq, l, w, sl, h, rfl, _⟩ := h
    rfl
  · obtain ⟨p, sq, l, w, sl, h, rfl, hp, sl0, hs, hl, hw, hsl, hh, k⟩ := h
    refine ⟨_, (pss_cons (ps_if (pt_cmpR op_lt (pv 1) pe_int (nomark _)) (pss_one ps_never) pss_nil)
      (pss_cons (ps_if (PW.pt (pw_or (pt_cmpR op_eq (pv 1) pe_int (nomark _)) (pw_or1 (pt_cmpR op_lt (pv 2) pe_int (nomark _))))) (pss_one (ps_ret (pe_df D_sign (hr.mono (by decide)) (by rfl) (pa_cons (pe_un un_neg (pv 2)) pa_nil)))) pss_nil)
      (pss_one (ps_ret (pe_df D_beside_fraction (hr.mono (by decide)) (by rfl) (pa_cons (pv 0) (pa_cons (pv 2) (pa_cons (pv 1) pa_nil)))))))), ?_⟩
    unfold sal0 at k
    refine ⟨_, rfl, _, _, rfl, rfl, _, rfl, ite2 (fun e => ?_) (fun _ => ?_)⟩
    · have e0 : sl < 0 := of_decide_eq_true e
      omega
    refine ⟨_, rfl, rfl, _, rfl, ite2 (fun e => iteT ?_) (fun e => ?_)⟩
    · rw [if_pos (.inl (V.int.inj (of_decide_eq_true e)))] at k
      exact ⟨_, rfl, _, rfl, _, rfl, k⟩
    · have e0 : ¬ sl = 0 := fun z => e (decide_eq_true (congrArg V.int z))
      refine ⟨_, rfl, _, _, rfl, rfl, _, rfl, ite2 (fun e2 => ?_) (fun e2 => ?_)⟩
      · rw [if_pos (.inr (of_decide_eq_true e2))] at k
        exact ⟨_, rfl, _, rfl, _, rfl, k⟩
      · have e3 : ¬ h < 0 := fun z => e2 (decide_eq_true z)
        rw [if_neg (fun z => z.elim e0 e3)] at k
        exact ⟨_, rfl, _, rfl, _, rfl, p, sq, l, w, h, sl, rfl, hp, hs, hl, hw, hh, hsl, k⟩
theorem ok_sal {f : Addr} {fd : FuncData} (F : Fun K "sign_along_line" "sign_along_line" s_sign_along_line f fd) (D_sign : Df P w K mg base 1 "sign" ["number"] spSign) (D_beside_fraction : Df P w K mg base 2 "beside_fraction" ["parts", "top", "bottom"] spBeside) (D_sign_along_line : Df P w K mg base 3 "sign_along_line" ["parts", "slope", "height"] spSal0) : FnOk P w K mg base CX0 4 f fd ["parts", "slope", "height"] spSal := by
  refine F.ok sc_sign_along_line (fun vs H Q E h => ?_) (fun cdv A outer s H vs Q E hr h => ?_)
  · obtain ⟨p, sq, l, w, sl, h, rfl, _⟩ := h
    rfl
  · obtain ⟨p, sq, l, w, sl, h, rfl, hp, hs, hl, hw, hsl, hh, k⟩ := h
    refine ⟨_, (pss_cons (ps_if (pt_cmpR op_lt (pv 1) pe_int (nomark _)) (pss_one (ps_ret (pe_un un_neg (pe_df D_sign_along_line (hr.mono (by decide)) (by rfl) (pa_cons (pv 0) (pa_cons (pe_un un_neg (pv 1)) (pa_cons (pe_un un_neg (pv 2)) pa_nil))))))) pss_nil)
      (pss_cons (ps_if (PW.pt (pw_or (pt_cmpR op_eq (pv 1) pe_int (nomark _)) (pw_or1 (pt_cmpR op_lt (pv 2) pe_int (nomark _))))) (pss_one (ps_ret (pe_df D_sign (hr.mono (by decide)) (by rfl) (pa_cons (pe_un un_neg (pv 2)) pa_nil)))) pss_nil)
      (pss_one (ps_ret (pe_df D_beside_fraction (hr.mono (by decide)) (by rfl) (pa_cons (pv 0) (pa_cons (pv 2) (pa_cons (pv 1) pa_nil)))))))), ?_⟩
    unfold sal at k
    refine ⟨_, rfl, _, _, rfl, rfl, _, rfl, ite2 (fun e => ?_) (fun e => ?_)⟩
    · have e0 : sl < 0 := of_decide_eq_true e
      rw [if_pos e0] at k
      exact ⟨_, rfl, _, rfl, _, rfl, _, rfl, _, rfl, p, sq, l, w, -sl, -h, rfl, hp, by omega, hs, hl, hw, hsl.neg, hh.neg, _, rfl, k⟩
    have e0 : ¬ sl < 0 := fun z => e (decide_eq_true z)
    rw [if_neg e0] at k
    unfold sal0 at k
    refine ⟨_, rfl, rfl, _, rfl, ite2 (fun e => iteT ?_) (fun e => ?_)⟩
    · rw [if_pos (.inl (V.int.inj (of_decide_eq_true e)))] at k
      exact ⟨_, rfl, _, rfl, _, rfl, k⟩
    · have e0 : ¬ sl = 0 := fun z => e (decide_eq_true (congrArg V.int z))
      refine ⟨_, rfl, _, _, rfl, rfl, _, rfl, ite2 (fun e2 => ?_) (fun e2 => ?_)⟩
      · rw [if_pos (.inr (of_decide_eq_true e2))] at k
        exact ⟨_, rfl, _, rfl, _, rfl, k⟩
      · have e3 : ¬ h < 0 := fun z => e2 (decide_eq_true z)
        rw [if_neg (fun z => z.elim e0 e3)] at k
        exact ⟨_, rfl, _, rfl, _, rfl, p, sq, l, w, h, sl, rfl, hp, hs, hl, hw, hh, hsl, k⟩
abbrev s_Exact_order : Stmt := inClass (top 48) 5
theorem sc_Exact_order : FnScope ["self", "other", "square", "line", "whole", "other_square", "other_line", "other_whole", "slope", "height"] ["self", "other"] (defScope s_Exact_order) := ⟨rfl, rfl, rfl, by decide +kernel, rfl, by decide +kernel, by decide +kernel⟩

theorem ok_order {f : Addr} {fd : FuncData} (F : Fun K "order" "Exact.order" s_Exact_order f fd) (T : Txt4 K mg tG t1 t2 t3 tP tC aO aW J C Ce Cl) (D_sign_along_line : Df P w K mg base 4 "sign_along_line" ["parts", "slope", "height"] spSal) (D_beside_fraction : Df P w K mg base 2 "beside_fraction" ["parts", "top", "bottom"] spBeside) : FnOk P w K mg base CX0 5 f fd ["self", "other"] (spOrder Ce) := by
  refine F.ok sc_Exact_order (fun vs H Q E h => ?_) (fun cdv A outer s H vs Q E hr h => ?_)
  · obtain ⟨x, y, a, b, c, d, e, f, rfl, _⟩ := h
    rfl
  · obtain ⟨x, y, sq, l, w, sq', l', w', rfl, ⟨dx, pp, hx, hpp⟩, ⟨dy, qq, hy, hqq⟩, hs, hl, hw, hs', hl', hw', k⟩ := h
    refine ⟨_, (pss_cons (ps_asg (pe_fld (pv 0) rfl) (pg_tup rfl (pgs_cons (pg_name (i := 2) sc_Exact_order.nd rfl (.inl rfl)) (pgs_cons (pg_name (i := 3) sc_Exact_order.nd rfl (.inl rfl)) (pgs_cons (pg_name (i := 4) sc_Exact_order.nd rfl (.inl rfl)) pgs_nil)))))
      (pss_cons (ps_asg (pe_fld (pv 1) rfl) (pg_tup rfl (pgs_cons (pg_name (i := 5) sc_Exact_order.nd rfl (.inl rfl)) (pgs_cons (pg_name (i := 6) sc_Exact_order.nd rfl (.inl rfl)) (pgs_cons (pg_name (i := 7) sc_Exact_order.nd rfl (.inl rfl)) pgs_nil)))))
      (pss_cons (ps_if (pt_cmpR op_eq (pv 5) pe_int (nomark _)) (pss_one (ps_ret (pe_df D_beside_fraction (hr.mono (by decide)) (by rfl) (pa_cons (pe_fld (pv 0) rfl) (pa_cons (pv 7) (pa_cons (pv 6) pa_nil)))))) pss_nil)
      (pss_cons (ps_set (i := 8) sc_Exact_order.nd rfl (.inl rfl) (pe_op op_sub (pe_op op_mulX (pv 3) (pv 5)) (pe_op op_mulX (pv 6) (pv 2))))
      (pss_cons (ps_set (i := 9) sc_Exact_order.nd rfl (.inl rfl) (pe_op op_sub (pe_op op_mulX (pv 4) (pv 5)) (pe_op op_mulX (pv 7) (pv 2))))
      (pss_one (ps_ret (pe_un un_neg (pe_df D_sign_along_line (hr.mono (by decide)) (by rfl) (pa_cons (pe_fld (pv 1) rfl) (pa_cons (pv 8) (pa_cons (pv 9) pa_nil)))))))))))), ?_⟩
    unfold ord at k
    refine ⟨_, rfl, x, Ce, dx, _, _, rfl, hx, T.clE, T.nP, rfl, pp, _, rfl, SqT.of hpp, rfl, _, _, rfl, _, _, rfl, _, _, rfl, rfl, ?_⟩
    refine ⟨_, rfl, y, Ce, dy, _, _, rfl, hy, T.clE, T.nP, rfl, qq, _, rfl, SqT.of hqq, rfl, _, _, rfl, _, _, rfl, _, _, rfl, rfl, ?_⟩
    have up : ∀ {z : Int}, Sm 200 z → Sm 1000 z := fun h => h.mono (by decide)
    refine ⟨_, rfl, rfl, _, rfl, ite2 (fun e => ?_) (fun e => ?_)⟩
    · rw [if_pos (V.int.inj (of_decide_eq_true e))] at k
      exact ⟨_, rfl, x, Ce, dx, _, _, rfl, hx, T.clE, T.nP, rfl, _, rfl, _, rfl, pp, sq, l, w, w', l', rfl, hpp, up hs, up hl, up hw, up hw', up hl', k⟩
    · rw [if_neg (fun z => e (decide_eq_true (congrArg V.int z)))] at k
      refine ⟨_, rfl, _, rfl, _, _, rfl, rfl, mx hl hs', _, rfl, _, rfl, _, _, rfl, rfl, mx hl' hs, _, _, rfl, rfl, ?_⟩
      refine ⟨_, rfl, _, rfl, _, _, rfl, rfl, mx hw hs', _, rfl, _, rfl, _, _, rfl, rfl, mx hw' hs, _, _, rfl, rfl, ?_⟩
      refine ⟨_, rfl, y, Ce, dy, _, _, rfl, hy, T.clE, T.nP, rfl, _, rfl, _, rfl, qq, sq', l', w', _, _, rfl, hqq, up hs', up hl', up hw', ((hl.mul hs').sub (hl'.mul hs)).mono (by decide), ((hw.mul hs').sub (hw'.mul hs)).mono (by decide), _, rfl, k⟩
theorem ok_poK {f : Addr} {fd : FuncData} (F : Fun K "pair_order" "pair_order" s_pair_order f fd) (D_sign : Df P w K mg base 1 "sign" ["number"] spSign) : FnOk P w K mg base CX0 2 f fd ["first", "second"] (spPOK K) := by
  refine F.ok sc_pair_order (fun vs H Q E h => ?_) (fun cdv A outer s H vs Q E hr h => ?_)
  · obtain ⟨p, q, e, f, rfl, _⟩ := h
    rfl
  · obtain ⟨p, q, e, f, rfl, hp, hq, e1, e2, f1, f2, k⟩ := h
    refine ⟨_, (pss_one (ps_ret (pe_df D_sign (hr.mono (by decide)) (by rfl) (pa_cons (pe_op op_sub (pe_op op_mulX (pe_ix ix_tup (pv 0) pe_int (fun _ _ => rfl)) (pe_ix ix_tup (pv 1) pe_int (fun _ _ => rfl))) (pe_op op_mulX (pe_ix ix_tup (pv 1) pe_int (fun _ _ => rfl)) (pe_ix ix_tup (pv 0) pe_int (fun _ _ => rfl)))) pa_nil)))), ?_⟩
    exact ⟨_, rfl, p, _, _, _, rfl, rfl, hp, atI_nat (j := 0) rfl, _, rfl, q, _, _, _, rfl, rfl, hq, atI_nat (j := 1) rfl, _, _, rfl, rfl, mx e1 f2, _, rfl, q, _, _, _, rfl, rfl, hq, atI_nat (j := 0) rfl, _, rfl, p, _, _, _, rfl, rfl, hp, atI_nat (j := 1) rfl, _, _, rfl, rfl, mx f1 e2, _, _, rfl, rfl, _, rfl, k⟩
abbrev s_difference : Stmt := top 60
theorem sc_difference : FnScope ["matrix", "other_matrix", "a", "b", "c", "d", "other_a", "other_b", "other_c", "other_d", "square", "line", "whole"] ["matrix", "other_matrix"] (defScope s_difference) := ⟨rfl, rfl, rfl, by decide +kernel, rfl, by decide +kernel, by decide +kernel⟩

theorem ok_diff {f : Addr} {fd : FuncData} (F : Fun K "difference" "difference" s_difference f fd) : FnOk P w K mg base CX0 1 f fd ["matrix", "other_matrix"] spDiff := by
  refine F.ok sc_difference (fun vs H Q E h => ?_) (fun cdv A outer s H vs Q E hr h => ?_)
  · obtain ⟨p, q, m, n, rfl, _⟩ := h
    rfl
  · obtain ⟨p, q, m, n, rfl, hp, hq, ⟨a, b, c, d⟩, ⟨a', b', c', d'⟩, k⟩ := h
    refine ⟨_, (pss_cons (ps_asg (pv 0) (pg_tup rfl (pgs_cons (pg_name (i := 2) sc_difference.nd rfl (.inl rfl)) (pgs_cons (pg_name (i := 3) sc_difference.nd rfl (.inl rfl)) (pgs_cons (pg_name (i := 4) sc_difference.nd rfl (.inl rfl)) (pgs_cons (pg_name (i := 5) sc_difference.nd rfl (.inl rfl)) pgs_nil))))))
      (pss_cons (ps_asg (pv 1) (pg_tup rfl (pgs_cons (pg_name (i := 6) sc_difference.nd rfl (.inl rfl)) (pgs_cons (pg_name (i := 7) sc_difference.nd rfl (.inl rfl)) (pgs_cons (pg_name (i := 8) sc_difference.nd rfl (.inl rfl)) (pgs_cons (pg_name (i := 9) sc_difference.nd rfl (.inl rfl)) pgs_nil))))))
      (pss_cons (ps_set (i := 10) sc_difference.nd rfl (.inl rfl) (pe_op op_sub (pe_op op_mulX (pv 2) (pv 8)) (pe_op op_mulX (pv 6) (pv 4))))
      (pss_cons (ps_set (i := 11) sc_difference.nd rfl (.inl rfl) (pe_op op_sub (pe_op op_sub (pe_op op_add (pe_op op_mulX (pv 2) (pv 9)) (pe_op op_mulX (pv 3) (pv 8))) (pe_op op_mulX (pv 6) (pv 5))) (pe_op op_mulX (pv 7) (pv 4))))
      (pss_cons (ps_set (i := 12) sc_difference.nd rfl (.inl rfl) (pe_op op_sub (pe_op op_mulX (pv 3) (pv 9)) (pe_op op_mulX (pv 7) (pv 5))))
      (pss_one (ps_ret (pe_tup (pa_cons (pv 10) (pa_cons (pv 11) (pa_cons (pv 12) pa_nil))))))))))), ?_⟩
    refine ⟨_, rfl, p, _, rfl, SqT.of hp, rfl, _, _, rfl, _, _, rfl, _, _, rfl, _, _, rfl, rfl, ?_⟩
    refine ⟨_, rfl, q, _, rfl, SqT.of hq, rfl, _, _, rfl, _, _, rfl, _, _, rfl, _, _, rfl, rfl, ?_⟩
    refine ⟨_, rfl, _, rfl, _, _, rfl, rfl, mx a c', _, rfl, _, rfl, _, _, rfl, rfl, mx a' c, _, _, rfl, rfl, ?_⟩
    refine ⟨_, rfl, _, rfl, _, _, rfl, rfl, mx a d', _, rfl, _, rfl, _, _, rfl, rfl, mx b c', _, _, rfl, rfl, _, rfl, _, rfl, _, _, rfl, rfl, mx a' d, _, _, rfl, rfl, _, rfl, _, rfl, _, _, rfl, rfl, mx b' c, _, _, rfl, rfl, ?_⟩
    refine ⟨_, rfl, _, rfl, _, _, rfl, rfl, mx b d', _, rfl, _, rfl, _, _, rfl, rfl, mx b' d, _, _, rfl, rfl, ?_⟩
    exact ⟨_, rfl, _, rfl, _, rfl, (by show 3 ≤ sizeLine; decide), fun z nz => k _ z (same_upd nz) upd_same⟩
abbrev s_sign_at : Stmt := top 61
theorem sc_sign_at : FnScope ["parabola", "pair", "square", "line", "whole", "top", "bottom"] ["parabola", "pair"] (defScope s_sign_at) := ⟨rfl, rfl, rfl, by decide +kernel, rfl, by decide +kernel, by decide +kernel⟩

theorem ok_sat {f : Addr} {fd : FuncData} (F : Fun K "sign_at" "sign_at" s_sign_at f fd) (D_sign : Df P w K mg base 1 "sign" ["number"] spSign) : FnOk P w K mg base CX0 2 f fd ["parabola", "pair"] (spSAt K) := by
  refine F.ok sc_sign_at (fun vs H Q E h => ?_) (fun cdv A outer s H vs Q E hr h => ?_)
  · obtain ⟨z, p, S, L, W, e, rfl, _⟩ := h
    rfl
  · obtain ⟨z, p, S, L, W, e, rfl, hz, hp, sS, sL, sW, e1, e2, k⟩ := h
    refine ⟨_, (pss_cons (ps_asg (pv 0) (pg_tup rfl (pgs_cons (pg_name (i := 2) sc_sign_at.nd rfl (.inl rfl)) (pgs_cons (pg_name (i := 3) sc_sign_at.nd rfl (.inl rfl)) (pgs_cons (pg_name (i := 4) sc_sign_at.nd rfl (.inl rfl)) pgs_nil)))))
      (pss_cons (ps_asg (pv 1) (pg_tup rfl (pgs_cons (pg_name (i := 5) sc_sign_at.nd rfl (.inl rfl)) (pgs_cons (pg_name (i := 6) sc_sign_at.nd rfl (.inl rfl)) pgs_nil))))
      (pss_one (ps_ret (pe_df D_sign (hr.mono (by decide)) (by rfl) (pa_cons (pe_op op_add (pe_op op_add (pe_op op_mulX (pe_op op_mulX (pv 2) (pv 5)) (pv 5)) (pe_op op_mulX (pe_op op_mulX (pv 3) (pv 5)) (pv 6))) (pe_op op_mulX (pe_op op_mulX (pv 4) (pv 6)) (pv 6))) pa_nil)))))), ?_⟩
    refine ⟨_, rfl, z, _, rfl, SqT.of hz, rfl, _, _, rfl, _, _, rfl, _, _, rfl, rfl, ?_⟩
    refine ⟨_, rfl, p, _, rfl, hp, rfl, _, _, rfl, _, _, rfl, rfl, ?_⟩
    exact ⟨_, rfl, _, rfl, _, _, rfl, rfl, mx sS e1, _, rfl, _, _, rfl, rfl, mx (sS.mul e1) e1, _, rfl, _, rfl, _, _, rfl, rfl, mx sL e1, _, rfl, _, _, rfl, rfl, mx (sL.mul e1) e2, _, _, rfl, rfl, _, rfl, _, rfl, _, _, rfl, rfl, mx sW e2, _, rfl, _, _, rfl, rfl, mx (sW.mul e2) e2, _, _, rfl, rfl, _, rfl, k⟩
abbrev s_sign_far_out : Stmt := top 62
theorem sc_sign_far_out : FnScope ["parabola", "square", "line", "whole"] ["parabola"] (defScope s_sign_far_out) := ⟨rfl, rfl, rfl, by decide +kernel, rfl, by decide +kernel, by decide +kernel⟩

theorem ok_far {f : Addr} {fd : FuncData} (F : Fun K "sign_far_out" "sign_far_out" s_sign_far_out f fd) (D_sign : Df P w K mg base 1 "sign" ["number"] spSign) : FnOk P w K mg base CX0 2 f fd ["parabola"] spFar := by
  refine F.ok sc_sign_far_out (fun vs H Q E h => ?_) (fun cdv A outer s H vs Q E hr h => ?_)
  · obtain ⟨z, S, L, W, rfl, _⟩ := h
    rfl
  · obtain ⟨z, S, L, W, rfl, hz, k⟩ := h
    refine ⟨_, (pss_cons (ps_asg (pv 0) (pg_tup rfl (pgs_cons (pg_name (i := 1) sc_sign_far_out.nd rfl (.inl rfl)) (pgs_cons (pg_name (i := 2) sc_sign_far_out.nd rfl (.inl rfl)) (pgs_cons (pg_name (i := 3) sc_sign_far_out.nd rfl (.inl rfl)) pgs_nil)))))
      (pss_one (ps_ret (pe_orT (pe_df D_sign (hr.mono (by decide)) (by rfl) (pa_cons (pv 1) pa_nil)) (pe_orT (pe_df D_sign (hr.mono (by decide)) (by rfl) (pa_cons (pv 2) pa_nil)) (pe_one (pe_df D_sign (hr.mono (by decide)) (by rfl) (pa_cons (pv 3) pa_nil)))))))), ?_⟩
    refine ⟨_, rfl, z, _, rfl, SqT.of hz, rfl, _, _, rfl, _, _, rfl, _, _, rfl, rfl, ?_⟩
    unfold farS at k
    refine ⟨_, rfl, _, rfl, _, rfl, ite2 (fun e => ?_) (fun e => ?_)⟩
    · rw [if_pos (show (sgn _ != 0) = true from e)] at k
      exact k
    · rw [if_neg (show ¬ (sgn _ != 0) = true from e)] at k
      refine ⟨_, rfl, _, rfl, _, rfl, ite2 (fun e => ?_) (fun e => ?_)⟩
      · rw [if_pos (show (sgn _ != 0) = true from e)] at k
        exact k
      · rw [if_neg (show ¬ (sgn _ != 0) = true from e)] at k
        exact ⟨_, rfl, _, rfl, k⟩
abbrev s_sign_from : Stmt := top 63
theorem sc_sign_from : FnScope ["parabola", "pair"] ["parabola", "pair"] (defScope s_sign_from) := ⟨rfl, rfl, rfl, by decide +kernel, rfl, by decide +kernel, by decide +kernel⟩

theorem ok_from {f : Addr} {fd : FuncData} (F : Fun K "sign_from" "sign_from" s_sign_from f fd) (D_sign_far_out : Df P w K mg base 2 "sign_far_out" ["parabola"] spFar) (D_sign_at : Df P w K mg base 2 "sign_at" ["parabola", "pair"] (spSAt K)) : FnOk P w K mg base CX0 3 f fd ["parabola", "pair"] (spFrom K) := by
  refine F.ok sc_sign_from (fun vs H Q E h => ?_) (fun cdv A outer s H vs Q E hr h => ?_)
  · obtain ⟨z, p, S, L, W, e, rfl, _⟩ := h
    rfl
  · obtain ⟨z, p, S, L, W, e, rfl, hz, hp, n0, sS, sL, sW, e1, e2, k⟩ := h
    refine ⟨_, (pss_one (ps_ret (pe_ifExp (pt_cmpR op_eq (pe_ix ix_tup (pv 1) pe_int (fun _ _ => rfl)) pe_int (nomark _)) (pe_df D_sign_far_out (hr.mono (by decide)) (by rfl) (pa_cons (pv 0) pa_nil)) (pe_df D_sign_at (hr.mono (by decide)) (by rfl) (pa_cons (pv 0) (pa_cons (pv 1) pa_nil)))))), ?_⟩
    refine ⟨_, rfl, p, _, _, _, rfl, rfl, hp, atI_nat (j := 1) rfl, rfl, _, rfl, ite2 (fun e => absurd (V.int.inj (of_decide_eq_true e)) n0) (fun _ => ?_)⟩
    exact ⟨_, rfl, _, rfl, z, p, S, L, W, e, rfl, hz, hp, sS, sL, sW, e1, e2, k⟩
abbrev s_sign_towards : Stmt := top 64
theorem sc_sign_towards : FnScope ["parabola", "limit", "square", "line", "whole", "limit_square", "limit_line", "limit_whole", "slope", "height"] ["parabola", "limit"] (defScope s_sign_towards) := ⟨rfl, rfl, rfl, by decide +kernel, rfl, by decide +kernel, by decide +kernel⟩

theorem ok_tow {f : Addr} {fd : FuncData} (F : Fun K "sign_towards" "sign_towards" s_sign_towards f fd) (T : Txt2 K mg tG aO) (D_sign_far_out : Df P w K mg base 2 "sign_far_out" ["parabola"] spFar) : FnOk P w K mg base CX0 3 f fd ["parabola", "limit"] (spTow aO) := by
  refine F.ok sc_sign_towards (fun vs H Q E h => ?_) (fun cdv A outer s H vs Q E hr h => ?_)
  · obtain ⟨z, S, L, W, rfl, _⟩ := h
    rfl
  · obtain ⟨z, S, L, W, rfl, hz, k⟩ := h
    refine ⟨_, (pss_cons (ps_asg (pv 0) (pg_tup rfl (pgs_cons (pg_name (i := 2) sc_sign_towards.nd rfl (.inl rfl)) (pgs_cons (pg_name (i := 3) sc_sign_towards.nd rfl (.inl rfl)) (pgs_cons (pg_name (i := 4) sc_sign_towards.nd rfl (.inl rfl)) pgs_nil)))))
      (pss_cons (ps_if (pt_cmpR (op_eqD hr.units) (pv 1) (pe_glob (v := .ref aO) rfl T.mgO rfl) (nomark _)) (pss_one (ps_ret (pe_df D_sign_far_out (hr.mono (by decide)) (by rfl) (pa_cons (pv 0) pa_nil)))) pss_nil)
      pss_never)), ?_⟩
    refine ⟨_, rfl, z, _, rfl, SqT.of hz, rfl, _, _, rfl, _, _, rfl, _, _, rfl, rfl, ?_⟩
    refine ⟨_, rfl, .tuple [.int 1, .int 0], .tuple [.int 1, .int 0], .tup (.inr T.opn) (.cons (.int _) (.cons (.int _) .nil)), .tup (.inr T.opn) (.cons (.int _) (.cons (.int _) .nil)), rfl, rfl, _, rfl, ite2 (fun _ => ?_) (fun e => absurd (SeqAt.eqv_refl _ (by decide +kernel)) e)⟩
    exact ⟨_, rfl, z, S, L, W, rfl, hz, k⟩
abbrev s_limit_beside : Stmt := top 54
theorem sc_limit_beside : FnScope ["limit", "pair", "top", "bottom"] ["limit", "pair"] (defScope s_limit_beside) := ⟨rfl, rfl, rfl, by decide +kernel, rfl, by decide +kernel, by decide +kernel⟩

theorem ok_lb {f : Addr} {fd : FuncData} (F : Fun K "limit_beside" "limit_beside" s_limit_beside f fd) (T : Txt2 K mg tG aO) (D_pair_order : Df P w K mg base 2 "pair_order" ["first", "second"] (spPOK K)) : FnOk P w K mg base CX0 3 f fd ["limit", "pair"] (spLB K aO) := by
  refine F.ok sc_limit_beside (fun vs H Q E h => ?_) (fun cdv A outer s H vs Q E hr h => ?_)
  · obtain ⟨p, e, rfl, _⟩ := h
    rfl
  · obtain ⟨p, e, rfl, hp, e1, e2, k⟩ := h
    refine ⟨_, (pss_cons (ps_if (pt_cmpR (op_eqD hr.units) (pv 0) (pe_glob (v := .ref aO) rfl T.mgO rfl) (nomark _)) (pss_one (ps_ret (pe_df D_pair_order (hr.mono (by decide)) (by rfl) (pa_cons (pe_glob (v := .ref aO) rfl T.mgO rfl) (pa_cons (pv 1) pa_nil))))) pss_nil)
      pss_never), ?_⟩
    refine ⟨_, rfl, .tuple [.int 1, .int 0], .tuple [.int 1, .int 0], .tup (.inr T.opn) (.cons (.int _) (.cons (.int _) .nil)), .tup (.inr T.opn) (.cons (.int _) (.cons (.int _) .nil)), rfl, rfl, _, rfl, ite2 (fun _ => ?_) (fun e => absurd (SeqAt.eqv_refl _ (by decide +kernel)) e)⟩
    exact ⟨_, rfl, aO, p, (1, 0), e, rfl, .inr T.opn, hp, by unfold Sm; decide, by unfold Sm; decide, e1, e2, k⟩
abbrev s_never_below : Stmt := top 65
theorem sc_never_below : FnScope ["parabola", "pair", "limit", "square", "line", "whole", "lowest"] ["parabola", "pair", "limit"] (defScope s_never_below) := ⟨rfl, rfl, rfl, by decide +kernel, rfl, by decide +kernel, by decide +kernel⟩

theorem ok_nb {f : Addr} {fd : FuncData} (F : Fun K "never_below" "never_below" s_never_below f fd) (D_sign_from : Df P w K mg base 3 "sign_from" ["parabola", "pair"] (spFrom K)) (D_sign_towards : Df P w K mg base 3 "sign_towards" ["parabola", "limit"] (spTow aO)) (D_pair_order : Df P w K mg base 2 "pair_order" ["first", "second"] (spPOK K)) (D_limit_beside : Df P w K mg base 3 "limit_beside" ["limit", "pair"] (spLB K aO)) : FnOk P w K mg base CX0 4 f fd ["parabola", "pair", "limit"] (spNB aO) := by
  refine F.ok sc_never_below (fun vs H Q E h => ?_) (fun cdv A outer s H vs Q E hr h => ?_)
  · obtain ⟨z, p, S, L, W, rfl, _⟩ := h
    rfl
  · obtain ⟨z, p, S, L, W, rfl, hz, hp, sS, sL, sW, k⟩ := h
    refine ⟨_, (pss_cons (ps_if (PW.pt (pw_or (pt_cmpR op_lt (pe_df D_sign_from (hr.mono (by decide)) (by rfl) (pa_cons (pv 0) (pa_cons (pv 1) pa_nil))) pe_int (nomark _)) (pw_or1 (pt_cmpR op_lt (pe_df D_sign_towards (hr.mono (by decide)) (by rfl) (pa_cons (pv 0) (pa_cons (pv 2) pa_nil))) pe_int (nomark _))))) (pss_one (ps_ret pe_bl)) pss_nil)
      (pss_cons (ps_asg (pv 0) (pg_tup rfl (pgs_cons (pg_name (i := 3) sc_never_below.nd rfl (.inl rfl)) (pgs_cons (pg_name (i := 4) sc_never_below.nd rfl (.inl rfl)) (pgs_cons (pg_name (i := 5) sc_never_below.nd rfl (.inl rfl)) pgs_nil)))))
      (pss_cons (ps_if (PW.pt (pw_or (pt_cmpR op_le (pv 3) pe_int (nomark _)) (pw_or (pt_cmpR op_ge (pv 4) pe_int (nomark _)) (pw_or1 (pt_cmpR op_le (pe_op op_mulX (pv 4) (pv 4)) (pe_op op_mulX (pe_op op_mul pe_int (pv 3)) (pv 5)) (nomark _)))))) (pss_one (ps_ret pe_bl)) pss_nil)
      (pss_cons (ps_set (i := 6) sc_never_below.nd rfl (.inl rfl) (pe_tup (pa_cons (pe_un un_neg (pv 4)) (pa_cons (pe_op op_mul pe_int (pv 3)) pa_nil))))
      (pss_one (ps_ret (pe_cmpR op_eq (pe_df D_pair_order (hr.mono (by decide)) (by rfl) (pa_cons (pv 1) (pa_cons (pv 6) pa_nil))) (pe_df D_limit_beside (hr.mono (by decide)) (by rfl) (pa_cons (pv 2) (pa_cons (pv 6) pa_nil))) (nomark _)))))))), ?_⟩
    have kF : ¬ (¬ (W < 0 ∨ farS S L W < 0) ∧ (S ≤ 0 ∨ L ≥ 0 ∨ L * L ≤ 4 * S * W)) → ∀ H', Same H H' → Q (.bl false) H' := fun h H' s' => by
      have z := k _ s'
      unfold nbB at z
      rw [decide_eq_false h] at z
      exact z
    have kT : (¬ (W < 0 ∨ farS S L W < 0) ∧ (S ≤ 0 ∨ L ≥ 0 ∨ L * L ≤ 4 * S * W)) → ∀ H', Same H H' → Q (.bl true) H' := fun h H' s' => by
      have z := k _ s'
      unfold nbB at z
      rw [decide_eq_true h] at z
      exact z
    refine ⟨_, rfl, _, rfl, z, p, S, L, W, (0, 1), rfl, hz, SqT.of hp, by decide, sS, sL, sW, by unfold Sm; decide, by unfold Sm; decide, _, _, rfl, rfl, _, rfl, ite2 (fun e => iteT ?_) (fun e => ?_)⟩
    · have e0 := of_decide_eq_true e
      rw [qv_01, sgn_lt] at e0
      exact kF (fun z => z.1 (.inl e0)) _ (Same.refl _)
    have w0 : ¬ W < 0 := fun z => e (decide_eq_true (by rw [qv_01, sgn_lt]; exact z))
    clear e
    refine ⟨_, rfl, _, rfl, z, S, L, W, rfl, hz, _, _, rfl, rfl, _, rfl, ite2 (fun e => ?_) (fun e => ?_)⟩
    · exact kF (fun z => z.1 (.inr (of_decide_eq_true e))) _ (Same.refl _)
    have f0 : ¬ farS S L W < 0 := fun z => e (decide_eq_true z)
    clear e
    refine ⟨_, rfl, z, _, rfl, SqT.of hz, rfl, _, _, rfl, _, _, rfl, _, _, rfl, rfl, ?_⟩
    have wf : ¬ (W < 0 ∨ farS S L W < 0) := fun z => z.elim w0 f0
    refine ⟨_, rfl, _, _, rfl, rfl, _, rfl, ite2 (fun e => iteT (kT ⟨wf, .inl (of_decide_eq_true e)⟩ _ (Same.refl _))) (fun e => ?_)⟩
    have s0 : ¬ S ≤ 0 := fun z => e (decide_eq_true z)
    clear e
    refine ⟨_, rfl, _, _, rfl, rfl, _, rfl, ite2 (fun e => iteT (kT ⟨wf, .inr (.inl (of_decide_eq_true e))⟩ _ (Same.refl _))) (fun e => ?_)⟩
    have l0 : ¬ L ≥ 0 := fun z => e (decide_eq_true z)
    clear e
    have four : Sm 3 4 := by unfold Sm; decide
    refine ⟨_, rfl, _, rfl, _, _, rfl, rfl, mx sL sL, _, rfl, _, _, rfl, rfl, .inl ⟨by decide, by decide⟩, _, rfl, _, _, rfl, rfl, mx (four.mul sS) sW, _, _, rfl, rfl, _, rfl, ite2 (fun e => kT ⟨wf, .inr (.inr (of_decide_eq_true e))⟩ _ (Same.refl _)) (fun e => ?_)⟩
    have q0 : ¬ L * L ≤ 4 * S * W := fun z => e (decide_eq_true z)
    clear e
    have two : Sm 2 2 := by unfold Sm; decide
    refine ⟨_, rfl, _, rfl, _, rfl, _, _, rfl, rfl, .inl ⟨by decide, by decide⟩, (by show 2 ≤ sizeLine; decide), fun q nq => ?_⟩
    have sq := same_upd (o := .tup [.int (-L), .int (2 * S)]) nq
    have hq : PairAt (upd H q (.tup [.int (-L), .int (2 * S)])) q (-L, 2 * S) := upd_same
    refine ⟨_, rfl, _, rfl, p, q, (0, 1), (-L, 2 * S), rfl, SqT.of (sq _ _ hp), SqT.of hq, by unfold Sm; decide, by unfold Sm; decide, (sL.neg).mono (by decide), (two.mul sS).mono (by decide), ?_⟩
    refine ⟨_, rfl, _, rfl, q, (-L, 2 * S), rfl, SqT.of hq, (sL.neg).mono (by decide), (two.mul sS).mono (by decide), ?_⟩
    have e1 : sgn ((0 : Int) * (2 * S) - -L * 1) = -1 := by
      unfold sgn
      rw [if_neg (by omega), if_pos (by omega)]
    have e2 : sgn ((1 : Int) * (2 * S) - -L * 0) = 1 := by
      unfold sgn
      rw [if_pos (by omega)]
    refine ⟨rfl, ?_⟩
    show Q (.bl (decide (V.int (sgn ((0 : Int) * (2 * S) - -L * 1)) = V.int (sgn ((1 : Int) * (2 * S) - -L * 0))))) _
    rw [e1, e2]
    exact kF (fun z => z.2.elim s0 fun z => z.elim l0 q0) _ sq
abbrev s_Pattern_eq : Stmt := inClass (top 34) 6
theorem sc_Pattern_eq : FnScope ["self", "other"] ["self", "other"] (defScope s_Pattern_eq) := ⟨rfl, rfl, rfl, by decide +kernel, rfl, by decide +kernel, by decide +kernel⟩

theorem ok_eqp {f : Addr} {fd : FuncData} (F : Fun K "__eq__" "Pattern.__eq__" s_Pattern_eq f fd) (T : Txt3 K mg tG t1 t2 t3 aO aW J C) (I : IsC K C) : FnOk P w K mg base CX0 1 f fd ["self", "other"] (spEqP C) := by
  refine F.ok sc_Pattern_eq (fun vs H Q E h => ?_) (fun cdv A outer s H vs Q E hr h => ?_)
  · obtain ⟨x, y, r, r', rfl, _⟩ := h
    rfl
  · obtain ⟨x, y, r, r', rfl, hx, hy, k⟩ := h
    refine ⟨_, (pss_one (ps_ret (pe_and (pe_callB call_isi (by rfl) T.isinstance (by decide +kernel) (pa_cons (pv 1) (pa_cons (pe_glob (v := .ref C) rfl T.mgC rfl) pa_nil))) (pe_one (pe_cmpR (op_eqD hr.units) (pe_fld (pv 0) rfl) (pe_fld (pv 1) rfl) (nomark _)))))), ?_⟩
    obtain ⟨dx, q, m, f1, h1, d1⟩ := dp_D4 (K := K) hx
    obtain ⟨dy, q', m', f2, h2, d2⟩ := dp_D4 (K := K) hy
    refine ⟨_, rfl, _, _, _, _, true, rfl, .own C, .base (.ins h2 T.cl I.ca I.cn I.ct I.cm), I.is_, true, rfl, iteT ?_⟩
    refine ⟨_, rfl, x, C, dx, _, _, rfl, h1, T.cl, T.nFour, lkF _ _ _, _, rfl, y, C, dy, _, _, rfl, h2, T.cl, T.nFour, lkF _ _ _, ?_⟩
    refine ⟨_, _, d1, d2, sh_D4 r, sh_D4 r', ?_⟩
    rw [eqv_D4]
    exact k
abbrev s_never_more : Stmt := top 67
theorem sc_never_more : FnScope ["pattern", "other", "gap"] ["pattern", "other"] (defScope s_never_more) := ⟨rfl, rfl, rfl, by decide +kernel, rfl, by decide +kernel, by decide +kernel⟩

theorem ok_nm {f : Addr} {fd : FuncData} (F : Fun K "never_more" "never_more" s_never_more f fd) (T : Txt3 K mg tG t1 t2 t3 aO aW J C) (D_check_pattern : Df P w K mg base 1 "check_pattern" ["value"] (spChkP C)) (D_difference : Df P w K mg base 1 "difference" ["matrix", "other_matrix"] spDiff) (D_never_below : Df P w K mg base 4 "never_below" ["parabola", "pair", "limit"] (spNB aO)) : FnOk P w K mg base CX0 5 f fd ["pattern", "other"] (spNM C) := by
  refine F.ok sc_never_more (fun vs H Q E h => ?_) (fun cdv A outer s H vs Q E hr h => ?_)
  · obtain ⟨x, y, r, r', rfl, _⟩ := h
    rfl
  · obtain ⟨x, y, r, r', rfl, hx, hy, ok, ok', l8, l8', k⟩ := h
    refine ⟨_, (pss_cons (ps_expr (pe_df D_check_pattern (hr.mono (by decide)) (by rfl) (pa_cons (pv 0) pa_nil)))
      (pss_cons (ps_expr (pe_df D_check_pattern (hr.mono (by decide)) (by rfl) (pa_cons (pv 1) pa_nil)))
      (pss_cons (ps_set (i := 2) sc_never_more.nd rfl (.inl rfl) (pe_df D_difference (hr.mono (by decide)) (by rfl) (pa_cons (pe_fld (pv 1) rfl) (pa_cons (pe_fld (pv 0) rfl) pa_nil))))
      (pss_one (ps_ret (pe_df D_never_below (hr.mono (by decide)) (by rfl) (pa_cons (pv 2) (pa_cons (pe_tup (pa_cons pe_int (pa_cons pe_int pa_nil))) (pa_cons (pe_glob (v := .ref aO) rfl T.mgO rfl) pa_nil))))))))), ?_⟩
    have ms := matR_sm30 ok l8
    have ms' := matR_sm30 ok' l8'
    obtain ⟨sS, sL, sW⟩ := q_sm ms' ms
    obtain ⟨dx, q, m, f', ws, f1, f2, f3, f4, hix, hq, hw, hm, _⟩ := hx
    obtain ⟨dy, q', m', f'', ws', g1, g2, g3, g4, hiy, hq', hw', hm', _⟩ := hy
    refine ⟨_, rfl, x, dx, _, rfl, hix, _, rfl, y, dy, _, rfl, hiy, ?_⟩
    refine ⟨_, rfl, y, C, dy, _, _, rfl, hiy, T.cl, T.nMat, lkM _ _ _, _, rfl, x, C, dx, _, _, rfl, hix, T.cl, T.nMat, lkM _ _ _, m', m, _, _, rfl, hm', hm, ms', ms, fun H1 z s1 hz => ?_⟩
    refine ⟨_, rfl, (by show 2 ≤ sizeLine; decide), fun p np => ?_⟩
    have sp := same_upd (o := .tup [.int 0, .int 1]) np
    exact ⟨z, p, _, _, _, rfl, sp _ _ hz, upd_same, sS.mono (by decide), sL.mono (by decide), sW.mono (by decide), fun H2 s2 => k _ ((s1.trans sp).trans s2)⟩
abbrev s_Exact_eq : Stmt := inClass (top 48) 6
theorem sc_Exact_eq : FnScope ["self", "other"] ["self", "other"] (defScope s_Exact_eq) := ⟨rfl, rfl, rfl, by decide +kernel, rfl, by decide +kernel, by decide +kernel⟩

theorem ok_eqt {f : Addr} {fd : FuncData} (F : Fun K "__eq__" "Exact.__eq__" s_Exact_eq f fd) (T : Txt4 K mg tG t1 t2 t3 tP tC aO aW J C Ce Cl) (kt : PySem.W.kitOne K (.type "tuple") (.ref Ce) = some false) : FnOk P w K mg base CX0 1 f fd ["self", "other"] (spEqT Ce) := by
  refine F.ok sc_Exact_eq (fun vs H Q E h => ?_) (fun cdv A outer s H vs Q E hr h => ?_)
  · obtain ⟨x, p, dx, fs, e, rfl, _⟩ := h
    rfl
  · obtain ⟨x, p, dx, fs, e, rfl, hx, hp, k⟩ := h
    refine ⟨_, (pss_one (ps_ret (pe_and (pe_callB call_isi (by rfl) T.isinstance (by decide +kernel) (pa_cons (pv 1) (pa_cons (pe_glob (v := .ref Ce) rfl T.mgE rfl) pa_nil))) (pe_one (pe_cmpR (op_eqD hr.units) (pe_fld (pv 0) rfl) (pe_fld (pv 1) rfl) (nomark _)))))), ?_⟩
    exact ⟨_, rfl, _, _, _, _, false, rfl, .own Ce, .base (.tup hp), kt, false, rfl, iteF k⟩
end
end RL

set_option maxHeartbeats 2000000
namespace RL
open PySem L2 PySem.Spec PyProof.Rows
def spNear : Sp := fun vs H Q _ => ∃ (c a : Addr) (r : List Pc), vs = [.ref c, .ref a] ∧ CupAt c H ∧ a ≠ c ∧ RowL H a r ∧ RowOk r ∧ 1 ≤ r.length ∧ r.length ≤ 3 ∧
  ∀ H' b r', But c H H' → CupAt c H' → b ≠ c → RowL H' b r' → RowOk r' → 1 ≤ r'.length → r'.length ≤ 4 → Q (.ref b) H'
def spLimR (aO Ce : Addr) : Sp := fun vs H Q _ => ∃ (v v' : V) (r r' : List Pc), vs = [v, v'] ∧ LimAt aO Ce H v r ∧ LimAt aO Ce H v' r' ∧ RowOk r ∧ RowOk r' ∧ r.length ≤ 8 ∧ r'.length ≤ 8 ∧ nmB r r' = true ∧ ∀ H', Same H H' → Q (.bl true) H'
section
variable {P : Program} {w : World} {K : PySem.W.Frag} {mg : Str → Option Value} {base : Heap} {tG t1 t2 t3 tP tC : Tok} {aO aW J C Ce Cl fP fJ gx : Addr} {fdJ fx : FuncData}
abbrev s_law_limits_right : Stmt := top 76
theorem sc_law_limits_right : FnScope ["_law_one", "_law_two"] ["_law_one", "_law_two"] (defScope s_law_limits_right) := ⟨rfl, rfl, rfl, by decide +kernel, rfl, by decide +kernel, by decide +kernel⟩

theorem ok_limr {f : Addr} {fd : FuncData} (F : Fun K "_law_limits_right" "_law_limits_right" s_law_limits_right f fd) (T : Txt4 K mg tG t1 t2 t3 tP tC aO aW J C Ce Cl) (OX : OwX P w K mg base Ce gx fx) (M_order : Mt P w K mg base Ce 5 "order" "self" "other" (spOrder Ce)) : FnOk P w K mg base CX0 7 f fd ["_law_one", "_law_two"] (spLimR aO Ce) := by
  refine F.ok sc_law_limits_right (fun vs H Q E h => ?_) (fun cdv A outer s H vs Q E hr h => ?_)
  · obtain ⟨v, v', r, r', rfl, _⟩ := h
    rfl
  · obtain ⟨v, v', r, r', rfl, hv, hv', ok, ok', l8, l8', hn, k⟩ := h
    refine ⟨_, (pss_cons (ps_if (pt_cmpR (op_or2 (op_eqD hr.units) (op_eqOwn OX.e_at OX.e_fn OX.ok OX.b (hr.mono (by decide)))) (pv 1) (pe_tup (pa_cons pe_int (pa_cons pe_int pa_nil))) (nomark _)) (pss_one (ps_ret pe_bl)) pss_nil)
      (pss_one (ps_ret (pe_and (pe_cmpR (op_or2 (op_neD hr.units) (op_neOwn OX.n_at OX.n_sub OX.e_at OX.e_fn OX.ok OX.b (hr.mono (by decide)))) (pv 0) (pe_tup (pa_cons pe_int (pa_cons pe_int pa_nil))) (nomark _)) (pe_one (pe_cmpR op_le (pe_dm (pv 0) T.clE M_order (hr.mono (by decide)) (pa_cons (pv 1) pa_nil)) pe_int (nomark _))))))), ?_⟩
    have dpo : ∀ {HH : Hp}, Dp K HH (.ref aO) (.tuple [.int 1, .int 0]) := fun {HH} => .tup (.inr T.opn) (.cons (.int _) (.cons (.int _) .nil))
    have dpp : ∀ {HH : Hp} {p : Addr}, HH p = some (.tup [.int 1, .int 0]) → Dp K HH (.ref p) (.tuple [.int 1, .int 0]) := fun h => .tup (SqT.of h) (.cons (.int _) (.cons (.int _) .nil))
    refine ⟨_, rfl, (by show 2 ≤ sizeLine; decide), fun p np => ?_⟩
    have sp := same_upd (o := .tup [.int 1, .int 0]) np
    have hp : (upd H p (.tup [.int 1, .int 0])) p = some (.tup [.int 1, .int 0]) := upd_same
    have hv1 := hv.same sp
    have hv1' := hv'.same sp
    generalize upd H p (.tup [.int 1, .int 0]) = H1 at *
    rcases hv1' with ⟨c0, rfl⟩ | ⟨cn', y, rfl, hy⟩
    · exact .inl ⟨_, _, dpo, dpp hp, rfl, rfl, _, rfl, ite2 (fun _ => k _ sp) (fun e => absurd (SeqAt.eqv_refl _ (by decide +kernel)) e)⟩
    obtain ⟨cn, _, od⟩ : (matR r).c ≠ 0 ∧ (matR r').c ≠ 0 ∧ ordP (eqL r) (eqL r') ≤ 0 := (lim_le ok ok' l8 l8' hn).elim (fun z => absurd z cn') id
    obtain ⟨x, rfl, hx⟩ : ∃ x, v = .ref x ∧ ExAt Ce H1 x (eqL r).1 (eqL r).2.1 (eqL r).2.2 := hv1.elim (fun z => absurd z.1 cn) (fun z => z.2)
    obtain ⟨dy, qy, hiy, hqy⟩ := id hy
    refine .inr ⟨y, dy, _, _, rfl, hiy, .base (.tup hp), OX.nf, y, p, dy, _, (1, 0), rfl, hiy, hp, _, rfl, ite2 (fun e => absurd e (by decide)) (fun _ => ?_)⟩
    refine ⟨_, rfl, (by show 2 ≤ sizeLine; decide), fun p2 np2 => ?_⟩
    have sp2 := same_upd (o := .tup [.int 1, .int 0]) np2
    have hp2 : (upd H1 p2 (.tup [.int 1, .int 0])) p2 = some (.tup [.int 1, .int 0]) := upd_same
    have hx2 := hx.same sp2
    have hy2 := hy.same sp2
    generalize upd H1 p2 (.tup [.int 1, .int 0]) = H2 at *
    obtain ⟨dx, qx, hix, hqx⟩ := id hx2
    refine .inr ⟨x, dx, _, _, rfl, hix, .base (.tup hp2), OX.nf, x, p2, dx, _, (1, 0), rfl, hix, hp2, false, rfl, true, rfl, iteT ?_⟩
    obtain ⟨s1, s2, s3⟩ := eqL_sm ok l8 cn
    obtain ⟨u1, u2, u3⟩ := eqL_sm ok' l8' cn'
    have lo : ([("parts", V.ref qx)] : List (Str × V)).lookup ("order" : Str) = none := by
      simp [List.lookup, (show (("order" : Str) == ("parts" : Str)) = false by decide +kernel)]
    refine ⟨_, rfl, x, dx, _, rfl, hix, lo, _, rfl, x, y, _, _, _, _, _, _, rfl, hx2, hy2, s1, s2, s3, u1, u2, u3, _, _, rfl, rfl, ?_⟩
    show Q (.bl (decide (ordP (eqL r) (eqL r') ≤ 0))) _
    rw [decide_eq_true od]
    exact k _ (sp.trans sp2)
abbrev s_law_near : Stmt := top 75
theorem sc_law_near : FnScope ["_law_cup_here", "_law_row_here", "_law_way", "_law_at", "_law_word", "_law_ohms"] ["_law_cup_here", "_law_row_here"] (defScope s_law_near) := ⟨rfl, rfl, rfl, by decide +kernel, rfl, by decide +kernel, by decide +kernel⟩

theorem ok_near {f : Addr} {fd : FuncData} (F : Fun K "_law_near" "_law_near" s_law_near f fd) (T : Txt K mg) (D_law_sip : Df P w K mg base 1 "_law_sip" ["_law_cup_here", "_law_many"] spSip) (D_law_row : Df P w K mg base 3 "_law_row" ["_law_cup_here", "_law_most"] spRow) : FnOk P w K mg base CX0 4 f fd ["_law_cup_here", "_law_row_here"] spNear := by
  refine F.ok sc_law_near (fun vs H Q E h => ?_) (fun cdv A outer s H vs Q E hr h => ?_)
  · obtain ⟨c, a, r, rfl, _⟩ := h
    rfl
  · obtain ⟨c, a, r, rfl, hc, nac, ⟨ws, ha, hw⟩, hok, l1, l3, k⟩ := h
    refine ⟨_, (C8.pss_cut (ps_par (by rfl) sc_law_near.nd (i := 2) (j := 3) rfl rfl (by decide) rfl rfl (pa_cons (pe_df D_law_sip (hr.mono (by decide)) (by rfl) (pa_cons (pv 0) (pa_cons pe_int pa_nil))) (pa_cons (pe_df D_law_sip (hr.mono (by decide)) (by rfl) (pa_cons (pv 0) (pa_cons (pe_callB call_len_seq (by rfl) T.len (by decide +kernel) (pa_cons (pv 1) pa_nil)) pa_nil))) pa_nil)) (by rfl))
      (C8.pss_cut (ps_asg (pe_ix ix_list (pv 1) (pv 3) (fun _ _ => rfl)) (pg_tup rfl (pgs_cons (pg_name (i := 4) sc_law_near.nd rfl (.inl rfl)) (pgs_cons (pg_name (i := 5) sc_law_near.nd rfl (.inl rfl)) pgs_nil))))
      (C8.pss_cut (ps_if (pt_cmpR op_eq (pv 2) pe_int (nomark _)) (pss_one (ps_ret (pe_op op_cat (pv 1) (pe_lst (pa_cons (pe_tup (pa_cons pe_str (pa_cons (pe_op op_add pe_int (pe_df D_law_sip (hr.mono (by decide)) (by rfl) (pa_cons (pv 0) (pa_cons pe_int pa_nil)))) pa_nil))) pa_nil))))) pss_nil)
      (C8.pss_cut (ps_if (pt_cmpR op_eq (pv 2) pe_int (nomark _)) (pss_one (ps_ret (pe_op op_cat (pe_lst (pa_cons (pe_tup (pa_cons pe_str (pa_cons (pe_op op_add pe_int (pe_df D_law_sip (hr.mono (by decide)) (by rfl) (pa_cons (pv 0) (pa_cons pe_int pa_nil)))) pa_nil))) pa_nil)) (pv 1)))) pss_nil)
      (C8.pss_cut (ps_if (pt_cmpR op_lt (pv 2) pe_int (nomark _)) (pss_one (ps_ret (pe_op op_cat (pe_op op_cat (pe_slice sl_list (pv 1) po_none (po_some (pv 3))) (pe_lst (pa_cons (pe_tup (pa_cons (pv 4) (pa_cons (pe_op op_add pe_int (pe_df D_law_sip (hr.mono (by decide)) (by rfl) (pa_cons (pv 0) (pa_cons pe_int pa_nil)))) pa_nil))) pa_nil))) (pe_slice sl_list (pv 1) (po_some (pe_op op_add (pv 3) pe_int)) po_none)))) pss_nil)
      (pss_one (ps_ret (pe_df D_law_row (hr.mono (by decide)) (by rfl) (pa_cons (pv 0) (pa_cons pe_int pa_nil)))))))))), ?_⟩
    have notT : ∀ {H' : Hp}, CupAt c H' → ∀ xs, H' c ≠ some (.tup xs) := fun h xs z => by obtain ⟨u, v, h, _⟩ := h; rw [h] at z; cases z
    have lw := hw.1
    refine ⟨fun σ' H' => ∃ (way : Int) (i : Nat), σ' = [some (.ref c), some (.ref a), some (.int way), some (.int (i : Int)), none, none] ∧ But c H H' ∧ CupAt c H' ∧ i < r.length ∧ H' a = some (.lst ws) ∧ PiecesAt H' ws r, ?_, ?_⟩
    · refine ⟨_, rfl, c, 5, rfl, hc, by decide, by unfold Sm; decide, fun H1 way b1 hc1 w0 w1 => ?_⟩
      have ha1 := b1 _ _ nac ha
      have hw1 := hw.but b1 (notT hc)
      refine ⟨_, rfl, _, rfl, a, _, rfl, .inl (SqL.of ha1), c, _, rfl, hc1, by omega, sm_small (by omega) (by omega), fun H2 at_ b2 hc2 a0 a1 => ?_⟩
      obtain ⟨i, rfl⟩ := Int.eq_ofNat_of_zero_le a0
      exact ⟨_, _, rfl, way, i, rfl, b1.trans b2, hc2, by omega, b2 _ _ nac ha1, hw1.but b2 (notT hc1)⟩
    rintro σ' H1 ⟨way, i, rfl, b1, hc1, hi, ha1, hw1⟩
    obtain ⟨pv, hpv, tt, rfl, htt⟩ := hw1.2 i r[i] (List.getElem?_eq_getElem hi)
    generalize r[i] = pc at *
    obtain ⟨wb, o⟩ := pc
    refine ⟨fun σ' H' => σ' = [some (.ref c), some (.ref a), some (.int way), some (.int (i : Int)), some (.str (wd wb)), some (.int o)] ∧ H1 = H', ?_, ?_⟩
    · exact ⟨_, rfl, _, rfl, a, _, _, _, rfl, rfl, SqL.of ha1, atI_nat (j := i) hpv, tt, _, rfl, SqT.of htt, rfl, _, _, rfl, _, _, rfl, rfl, rfl, rfl⟩
    rintro σ' _ ⟨rfl, rfl⟩
    have wle : i ≤ ws.length := by omega
    have wle1 : i + 1 ≤ ws.length := by omega
    have ei : (i : Int) + 1 = ((i + 1 : Nat) : Int) := by omega
    have len8 : ∀ {x y : List V}, x.length + y.length ≤ 40 → x.length + y.length ≤ sizeLine := fun h => Nat.le_of_lt (small1000 (by omega))
    have ltw : (ws.take i).length ≤ 8 := by rw [List.length_take]; omega
    have ldw : ∀ j, (ws.drop j).length ≤ 8 := fun j => by rw [List.length_drop]; omega
    refine ⟨fun σ' H' => σ' = [some (.ref c), some (.ref a), some (.int way), some (.int (i : Int)), some (.str (wd wb)), some (.int o)] ∧ H1 = H', ?_, ?_⟩
    · refine ⟨_, rfl, rfl, _, rfl, ite2 (fun e => ?_) (fun _ => ⟨rfl, rfl⟩)⟩
      refine ⟨_, rfl, _, rfl, c, 12, rfl, hc1, by decide, by unfold Sm; decide, fun H2 n b2 hc2 n0 n1 => ⟨_, _, rfl, rfl, (by show 2 ≤ sizeLine; decide), fun t nt => ⟨(by show 1 ≤ sizeLine; decide), fun l2 nl2 => ?_⟩⟩⟩
      have st := same_upd (o := .tup [.str (wd true), .int (1 + n)]) nt
      have sl := same_upd (o := .lst [.ref t]) nl2
      have ht := sl _ _ (upd_same (H := H2) (a := t) (o := .tup [.str (wd true), .int (1 + n)]))
      have g2 := upd_same (H := upd H2 t (.tup [.str (wd true), .int (1 + n)])) (a := l2) (o := .lst [.ref t])
      have ha2 := (st.trans sl) _ _ (b2 _ _ nac ha1)
      have hw2 := (hw1.but b2 (notT hc1)).same (st.trans sl)
      have hc2' := hc2.same (st.trans sl)
      have b2' := (b1.trans b2).trans (But.of (st.trans sl))
      refine ⟨a, l2, _, _, rfl, rfl, ha2, g2, len8 (by show _ + 1 ≤ 40; omega), fun l5 n5 => ?_⟩
      have q5 := same_upd (o := .lst (ws ++ [.ref t])) n5
      refine k _ l5 (r ++ [(true, 1 + n)]) (b2'.trans (But.of q5)) (hc2'.same q5) ((hc2'.ne n5).symm) ⟨_, upd_same, (hw2.app (pcs1 ht)).same q5⟩ (hok.app (RowOk.one ⟨by dsimp; omega, by dsimp; omega⟩)) ?_ ?_
      · rw [List.length_append]
        omega
      · rw [List.length_append]
        show _ + 1 ≤ 4
        omega
    rintro σ' _ ⟨rfl, rfl⟩
    refine ⟨fun σ' H' => σ' = [some (.ref c), some (.ref a), some (.int way), some (.int (i : Int)), some (.str (wd wb)), some (.int o)] ∧ H1 = H', ?_, ?_⟩
    · refine ⟨_, rfl, rfl, _, rfl, ite2 (fun e => ?_) (fun _ => ⟨rfl, rfl⟩)⟩
      refine ⟨_, rfl, c, 12, rfl, hc1, by decide, by unfold Sm; decide, fun H2 n b2 hc2 n0 n1 => ⟨_, _, rfl, rfl, (by show 2 ≤ sizeLine; decide), fun t nt => ⟨(by show 1 ≤ sizeLine; decide), fun l2 nl2 => ?_⟩⟩⟩
      have st := same_upd (o := .tup [.str (wd false), .int (1 + n)]) nt
      have sl := same_upd (o := .lst [.ref t]) nl2
      have ht := sl _ _ (upd_same (H := H2) (a := t) (o := .tup [.str (wd false), .int (1 + n)]))
      have g2 := upd_same (H := upd H2 t (.tup [.str (wd false), .int (1 + n)])) (a := l2) (o := .lst [.ref t])
      have ha2 := (st.trans sl) _ _ (b2 _ _ nac ha1)
      have hw2 := (hw1.but b2 (notT hc1)).same (st.trans sl)
      have hc2' := hc2.same (st.trans sl)
      have b2' := (b1.trans b2).trans (But.of (st.trans sl))
      refine ⟨_, rfl, l2, a, _, _, rfl, rfl, g2, ha2, len8 (by show 1 + _ ≤ 40; omega), fun l5 n5 => ?_⟩
      have q5 := same_upd (o := .lst ([.ref t] ++ ws)) n5
      refine k _ l5 ([(false, 1 + n)] ++ r) (b2'.trans (But.of q5)) (hc2'.same q5) ((hc2'.ne n5).symm) ⟨_, upd_same, ((pcs1 ht).app hw2).same q5⟩ ((RowOk.one ⟨by dsimp; omega, by dsimp; omega⟩).app hok) ?_ ?_
      · rw [List.length_append]
        omega
      · rw [List.length_append]
        show 1 + _ ≤ 4
        omega
    rintro σ' _ ⟨rfl, rfl⟩
    refine ⟨fun σ' H' => σ' = [some (.ref c), some (.ref a), some (.int way), some (.int (i : Int)), some (.str (wd wb)), some (.int o)] ∧ H1 = H', ?_, ?_⟩
    · refine ⟨_, rfl, _, _, rfl, rfl, _, rfl, ite2 (fun e => ?_) (fun _ => ⟨rfl, rfl⟩)⟩
      refine ⟨_, rfl, _, rfl, _, rfl, a, ws, rfl, SqL.of ha1, fun l1' n1 => ?_⟩
      rw [cut_to' wle]
      have q1 := same_upd (o := .lst (ws.take i)) n1
      have g1 : (upd H1 l1' (.lst (ws.take i))) l1' = some (.lst (ws.take i)) := upd_same
      have ha1' := q1 _ _ ha1
      have hw1' := hw1.same q1
      have hcG := hc1.same q1
      have nl1 : l1' ≠ c := (hc1.ne n1).symm
      have bG := b1.trans (But.of q1)
      generalize upd H1 l1' (.lst (ws.take i)) = G1 at *
      refine ⟨_, rfl, _, rfl, c, 12, rfl, hcG, by decide, by unfold Sm; decide, fun H2 n b2 hc2 n0 n1' => ⟨_, _, rfl, rfl, (by show 2 ≤ sizeLine; decide), fun t nt => ⟨(by show 1 ≤ sizeLine; decide), fun l2 n2 => ?_⟩⟩⟩
      have st := same_upd (o := .tup [.str (wd wb), .int (1 + n)]) nt
      have q2 := same_upd (o := .lst [.ref t]) n2
      have ht := q2 _ _ (upd_same (H := H2) (a := t) (o := .tup [.str (wd wb), .int (1 + n)]))
      have g2 := upd_same (H := upd H2 t (.tup [.str (wd wb), .int (1 + n)])) (a := l2) (o := .lst [.ref t])
      have s2 := st.trans q2
      have g1' := s2 _ _ (b2 _ _ nl1 g1)
      have ha2 := s2 _ _ (b2 _ _ nac ha1')
      have hw2 := (hw1'.but b2 (notT hcG)).same s2
      have hc2' := hc2.same s2
      have b2' := (bG.trans b2).trans (But.of s2)
      generalize upd (upd H2 t (.tup [.str (wd wb), .int (1 + n)])) l2 (.lst [.ref t]) = G2 at *
      refine ⟨l1', l2, _, _, rfl, rfl, g1', g2, len8 (by show _ + 1 ≤ 40; omega), fun l3' n3 => ?_⟩
      have q3 := same_upd (o := .lst (ws.take i ++ [.ref t])) n3
      have g3 : (upd G2 l3' (.lst (ws.take i ++ [.ref t]))) l3' = some (.lst (ws.take i ++ [.ref t])) := upd_same
      have ht3 := q3 _ _ ht
      generalize upd G2 l3' (.lst (ws.take i ++ [.ref t])) = G3 at *
      refine ⟨_, rfl, _, rfl, _, _, rfl, rfl, _, rfl, a, ws, rfl, SqL.of (q3 _ _ ha2), fun l4 n4 => ?_⟩
      rw [ei, cut_from' wle1]
      have q4 := same_upd (o := .lst (ws.drop (i + 1))) n4
      have g4 : (upd G3 l4 (.lst (ws.drop (i + 1)))) l4 = some (.lst (ws.drop (i + 1))) := upd_same
      generalize upd G3 l4 (.lst (ws.drop (i + 1))) = G4 at *
      refine ⟨l3', l4, _, _, rfl, rfl, q4 _ _ g3, g4, len8 (by rw [List.length_append]; show _ + 1 + _ ≤ 40; have := ldw (i + 1); omega), fun l5 n5 => ?_⟩
      have q5 := same_upd (o := .lst (ws.take i ++ [.ref t] ++ ws.drop (i + 1))) n5
      have s4 := q3.trans q4
      have s5 := s4.trans q5
      refine k _ l5 (r.take i ++ [(wb, 1 + n)] ++ r.drop (i + 1)) (b2'.trans (But.of s5)) (hc2'.same s5) ((hc2'.ne (s4.free n5)).symm) ⟨_, upd_same, ((((hw2.take i).same s5).app ((pcs1 ht3).same (q4.trans q5))).app ((hw2.drop (i + 1)).same s5))⟩ (((hok.take i).app (RowOk.one ⟨by dsimp; omega, by dsimp; omega⟩)).app (hok.drop (i + 1))) ?_ ?_
      · rw [List.length_append, List.length_append, List.length_take, List.length_drop]
        show 1 ≤ _ + 1 + _
        omega
      · rw [List.length_append, List.length_append, List.length_take, List.length_drop]
        show _ + 1 + _ ≤ 4
        omega
    rintro σ' _ ⟨rfl, rfl⟩
    exact ⟨_, rfl, c, 3, rfl, hc1, by decide, by decide, fun H2 b rb b2 hc2 nb nbc hb2 okb lb1 lb2 => k _ b rb (b1.trans b2) hc2 nbc hb2 okb lb1 (by omega)⟩
end
end RL

set_option maxHeartbeats 4000000
namespace RL
open PySem L2 PySem.Spec PyProof.Rows
def LsA (R : Addr → List Pc → Prop) (vs : List V) (rs : List (List Pc)) : Prop := vs.length = rs.length ∧ ∀ (i : Nat) (r : List Pc), rs[i]? = some r → ∃ a, vs[i]? = some (.ref a) ∧ R a r
theorem LsA.mono {R R' : Addr → List Pc → Prop} {vs : List V} {rs : List (List Pc)} (h : LsA R vs rs) (k : ∀ a r, R a r → R' a r) : LsA R' vs rs := ⟨h.1, fun i r hr => let ⟨a, h1, h2⟩ := h.2 i r hr; ⟨a, h1, k _ _ h2⟩⟩
theorem LsA.nil (R : Addr → List Pc → Prop) : LsA R [] [] := ⟨rfl, fun i r z => by simp at z⟩
theorem LsA.snoc {R : Addr → List Pc → Prop} {vs : List V} {rs : List (List Pc)} {a : Addr} {r : List Pc} (h : LsA R vs rs) (ha : R a r) : LsA R (vs ++ [.ref a]) (rs ++ [r]) := by
  refine ⟨by rw [List.length_append, List.length_append, h.1]; rfl, fun i f hf => ?_⟩
  by_cases hi : i < rs.length
  · rw [List.getElem?_append_left hi] at hf
    obtain ⟨u, hu, q⟩ := h.2 i f hf
    exact ⟨u, by rw [List.getElem?_append_left (by rw [h.1]; exact hi)]; exact hu, q⟩
  · rw [List.getElem?_append_right (by omega)] at hf
    have h0 : i - rs.length = 0 := by
      have := (List.getElem?_eq_some_iff.mp hf).1
      simp at this
      omega
    rw [h0] at hf
    cases hf
    exact ⟨a, by rw [List.getElem?_append_right (by rw [h.1]; omega), h.1, h0]; rfl, ha⟩
theorem LsA.of {R : Addr → List Pc → Prop} {vs : List V} {rs : List (List Pc)} (h : LsA R vs rs) {i : Nat} {v : V} (hv : vs[i]? = some v) : ∃ a r, v = .ref a ∧ rs[i]? = some r ∧ R a r := by
  have hi : i < rs.length := by
    have := (List.getElem?_eq_some_iff.mp hv).1
    have := h.1
    omega
  obtain ⟨a, h1, h2⟩ := h.2 i _ (List.getElem?_eq_getElem hi)
  rw [h1] at hv
  cases hv
  exact ⟨a, _, rfl, List.getElem?_eq_getElem hi, h2⟩
theorem yes_app (σ : L2.St) (H : Hp) (Q : Bool → Hp → Prop) : tYes σ H Q = Q true H := rfl
theorem atI0 {xs : List V} {v : V} {i : Nat} (h : xs[i]? = some v) : atI xs (0 + (i : Int)) = some v := by
  rw [Int.zero_add]
  exact atI_nat h
theorem PatAt.ne {C : Addr} {H : Hp} {x D : Addr} {r : List Pc} {xs : List V} (h : PatAt C H x r) (hD : H D = some (.lst xs)) : x ≠ D := by
  obtain ⟨dx, q, m, f, ws, f1, f2, f3, f4, h1, _⟩ := h
  intro z
  rw [z, hD] at h1
  cases h1
theorem PatAt.butL {C : Addr} {H H' : Hp} {x D : Addr} {r : List Pc} {xs : List V} (h : PatAt C H x r) (hD : H D = some (.lst xs)) (b : But D H H') : PatAt C H' x r := h.butX (fun ys z => by rw [hD] at z; cases z) (h.ne hD) b
theorem ins_of {C : Addr} {H : Hp} {x : Addr} {r : List Pc} (h : PatAt C H x r) : ∃ dx q m f, H x = some (.ins C dx (PF q m f (sclR r))) := by
  obtain ⟨dx, q, m, f, ws, f1, f2, f3, f4, h1, _⟩ := h
  exact ⟨dx, q, m, f, h1⟩
def bls (r : List Pc) (rs : List (List Pc)) : List V := rs.map fun r' => .bl (nmB r r')
structure SO (C : Addr) (H0 : Hp) (c m p tl : Addr) (xs ts : List V) (rs : List (List Pc)) (rp : List Pc) (H : Hp) : Prop where
  but : But c H0 H
  cup : CupAt c H
  m : H m = some (.lst xs)
  ps : LsA (fun a r => PatAt C H a r) xs rs
  part : PatAt C H p rp
  tl : H tl = some (.lst ts)
  ts : LsA (fun a r => H a = some (.lst (bls r rs))) ts rs
theorem SO.same {C : Addr} {H0 H H' : Hp} {c m p tl : Addr} {xs ts : List V} {rs : List (List Pc)} {rp : List Pc} (S : SO C H0 c m p tl xs ts rs rp H) (s : Same H H') : SO C H0 c m p tl xs ts rs rp H' :=
  ⟨S.but.trans (But.of s), S.cup.same s, s _ _ S.m, S.ps.mono fun _ _ h => h.same s, S.part.same s, s _ _ S.tl, S.ts.mono fun _ _ h => s _ _ h⟩
section
variable {P : Program} {w : World} {K : PySem.W.Frag} {mg : Str → Option Value} {base : Heap} {tG t1 t2 t3 tP tC : Tok} {aO aW J C Ce Cl fP fJ fL ga ge pm gm : Addr} {fdJ fdL fa fe fm : FuncData}
abbrev s_law_right : Stmt := top 77
theorem sc_law_right : FnScope ["_law_cup_here", "_law_turn", "_law_first", "_law_rows", "_law_some", "_law_row_here", "_law_part", "_law_told", "_law_two", "_law_one", "_law_i", "_law_j", "_law_k"] ["_law_cup_here"] (defScope s_law_right) := ⟨rfl, rfl, rfl, by decide +kernel, rfl, by decide +kernel, by decide +kernel⟩

theorem ok_right {f : Addr} {fd : FuncData} (F : Fun K "_law_right" "_law_right" s_law_right f fd) (T : Txt4 K mg tG t1 t2 t3 tP tC aO aW J C Ce Cl) (I : IsC K C) (nfC : PySem.W.notFirst K C (.ref C) = true) (OA : OwA P w K mg base C ga fa) (OE : OwE P w K mg base C ge fe) (X_lad : LadD P w K mg base C aO Ce Cl fL fdL) (OM : OwM P w K mg base C aO Ce Cl pm gm fm)
    (D_law_row : Df P w K mg base 3 "_law_row" ["_law_cup_here", "_law_most"] spRow) (D_law_near : Df P w K mg base 4 "_law_near" ["_law_cup_here", "_law_row_here"] spNear) (D_law_read : Df P w K mg base 8 "_law_read" ["_law_row_here"] (spReadL C)) (D_never_more : Df P w K mg base 5 "never_more" ["pattern", "other"] (spNM C)) (D_law_limits_right : Df P w K mg base 7 "_law_limits_right" ["_law_one", "_law_two"] (spLimR aO Ce)) :
    FnG P w K mg base 11 f fd ["_law_cup_here"] spRight := by
  refine okG F sc_law_right (fun vs H Q E h => ?_) (fun cdv A outer s H vs Q E hg hr h => ?_)
  · obtain ⟨c, rfl, _⟩ := h
    rfl
  · obtain ⟨c, rfl, hc, kq⟩ := h
    refine ⟨_, (pss_cons (ps_for PassesOwn.never rfl (pi_range1 rfl T.range (pa_cons pe_int pa_nil)) (pg_name (i := 1) sc_law_right.nd rfl (.inl rfl)) (C8.pss_cut (ps_set (i := 2) sc_law_right.nd rfl (.inl rfl) (pe_df D_law_row (hr.mono (by decide)) (by rfl) (pa_cons (pv 0) (pa_cons pe_int pa_nil))))
      (C8.pss_cut (ps_set (i := 3) sc_law_right.nd rfl (.inl rfl) (pe_lst (pa_cons (pv 2) (pa_cons (pe_df D_law_near (hr.mono (by decide)) (by rfl) (pa_cons (pv 0) (pa_cons (pv 2) pa_nil))) (pa_cons (pe_df D_law_near (hr.mono (by decide)) (by rfl) (pa_cons (pv 0) (pa_cons (pv 2) pa_nil))) pa_nil)))))
      (C8.pss_cut (ps_set (i := 4) sc_law_right.nd rfl (.inr rfl) (pe_lc (own := [("_law_row_here", 5)]) (g := gName 5) (tt := tYes) rfl sc_law_right.nd (pi_list (pv 3)) (blkOk_by (N := ["_law_cup_here", "_law_turn", "_law_first", "_law_rows", "_law_some", "_law_row_here", "_law_part", "_law_told", "_law_two", "_law_one", "_law_i", "_law_j", "_law_k"]) (sc := defScope s_law_right) (by decide +kernel)) (fun _ _ _ _ _ => pg_name (i := 5) sc_law_right.nd rfl (Or.inl rfl)) (fun _ _ _ _ _ => pts_nil) (fun _ _ _ _ _ => (pe_df D_law_read (hr.mono (by decide)) (by rfl) (pa_cons (pv 5) pa_nil)))))
      (C8.pss_cut (ps_set (i := 6) sc_law_right.nd rfl (.inl rfl) (pe_df D_law_read (hr.mono (by decide)) (by rfl) (pa_cons (pe_df D_law_row (hr.mono (by decide)) (by rfl) (pa_cons (pv 0) (pa_cons pe_int pa_nil))) pa_nil)))
      (C8.pss_cut (ps_set (i := 7) sc_law_right.nd rfl (.inr rfl) (pe_lc (own := [("_law_one", 9)]) (g := gName 9) (tt := tYes) rfl sc_law_right.nd (pi_list (pv 4)) (blkOk_by (N := ["_law_cup_here", "_law_turn", "_law_first", "_law_rows", "_law_some", "_law_row_here", "_law_part", "_law_told", "_law_two", "_law_one", "_law_i", "_law_j", "_law_k"]) (sc := defScope s_law_right) (by decide +kernel)) (fun _ _ _ _ _ => pg_name (i := 9) sc_law_right.nd rfl (Or.inr rfl)) (fun _ _ _ _ _ => pts_nil) (fun _ _ _ _ _ => (pe_lc (own := [("_law_two", 8)]) (g := gName 8) (tt := tYes) rfl sc_law_right.nd (pi_listK (K := K) (pv 4)) (blkOk_by (N := ["_law_cup_here", "_law_turn", "_law_first", "_law_rows", "_law_some", "_law_row_here", "_law_part", "_law_told", "_law_two", "_law_one", "_law_i", "_law_j", "_law_k"]) (sc := { kind := ScopeKind.function, names := [(".0", NameKind.local), ("_law_one", NameKind.cell), ("_law_some", NameKind.cell)], isGenerator := false, isCoroutine := false }) (by decide +kernel)) (fun _ _ _ _ _ => pg_name (i := 8) sc_law_right.nd rfl (Or.inl rfl)) (fun _ _ _ _ _ => pts_nil) (fun _ _ _ _ _ => (pe_df D_never_more (hr.mono (by decide)) (by rfl) (pa_cons (pv 9) (pa_cons (pv 8) pa_nil))))))))
      (pss_one (ps_for PassesOwn.never rfl (pi_range1 rfl T.range (pa_cons pe_int pa_nil)) (pg_name (i := 10) sc_law_right.nd rfl (.inr rfl)) (pss_one (ps_for PassesOwn.never rfl (pi_range1 rfl T.range (pa_cons pe_int pa_nil)) (pg_name (i := 11) sc_law_right.nd rfl (.inr rfl)) (C8.pss_cut (ps_if (PW.pt (pw_or (PW.pt (pw_and (pt_cmpR op_eq (pv 10) (pv 11) (nomark _)) (pw_and1 (pt_not (pt_val (pe_ix ix_list (pe_ix ix_list (pv 7) (pv 10) (fun _ _ => rfl)) (pv 11) (fun _ _ => rfl))))))) (pw_or1 (PW.pt (pw_and (pt_val (pe_ix ix_list (pe_ix ix_list (pv 7) (pv 10) (fun _ _ => rfl)) (pv 11) (fun _ _ => rfl))) (pw_and1 (pt_cmpR op_ne (pe_ix ix_list (pe_ix ix_list (pv 7) (pv 11) (fun _ _ => rfl)) (pv 10) (fun _ _ => rfl)) (pe_cmpR (op_eqOwn OE.e_at OE.e_fn OE.ok OE.b (hr.mono (by decide))) (pe_ix ix_list (pv 4) (pv 10) (fun _ _ => rfl)) (pe_ix ix_list (pv 4) (pv 11) (fun _ _ => rfl)) (nomark _)) (nomark _)))))))) (pss_one (ps_ret pe_bl)) pss_nil)
      (C8.pss_cut (ps_if (pt_cmpR (op_neD hr.units) (pe_lc (own := [("_law_k", 12)]) (g := gName 12) rfl sc_law_right.nd (pi_range1 rfl T.range (pa_cons pe_int pa_nil)) (blkOk_by (N := ["_law_cup_here", "_law_turn", "_law_first", "_law_rows", "_law_some", "_law_row_here", "_law_part", "_law_told", "_law_two", "_law_one", "_law_i", "_law_j", "_law_k"]) (sc := defScope s_law_right) (by decide +kernel)) (fun _ _ _ _ _ => pg_name (i := 12) sc_law_right.nd rfl (Or.inl rfl)) (fun _ _ _ _ _ => (pts_one (PW.pt (pw_and (pt_val (pe_ix (ix_listK (K := K)) (pe_ix (ix_listK (K := K)) (pv 7) (pv 10) (fun _ _ => rfl)) (pv 11) (fun _ _ => rfl))) (pw_and (pt_val (pe_ix (ix_listK (K := K)) (pe_ix (ix_listK (K := K)) (pv 7) (pv 11) (fun _ _ => rfl)) (pv 12) (fun _ _ => rfl))) (pw_and1 (pt_not (pt_val (pe_ix (ix_listK (K := K)) (pe_ix (ix_listK (K := K)) (pv 7) (pv 10) (fun _ _ => rfl)) (pv 12) (fun _ _ => rfl)))))))))) (fun _ _ _ _ _ => (pv 12))) (pe_lst pa_nil) (nomark _)) (pss_one (ps_ret pe_bl)) pss_nil)
      (pss_one (ps_if (pt_val (pe_ix ix_list (pe_ix ix_list (pv 7) (pv 10) (fun _ _ => rfl)) (pv 11) (fun _ _ => rfl))) (pss_cons (ps_par (by rfl) sc_law_right.nd (i := 9) (j := 8) rfl rfl (by decide) rfl rfl (pa_cons (pe_ix ix_list (pv 4) (pv 10) (fun _ _ => rfl)) (pa_cons (pe_ix ix_list (pv 4) (pv 11) (fun _ _ => rfl)) pa_nil)) (by rfl))
      (pss_cons (ps_if (PW.pt (pw_or (pt_not (pt_val (pe_df D_never_more (hr.mono (by decide)) (by rfl) (pa_cons (pe_op (op_binOwn OA.sf OA.at_ OA.fn OA.ok OA.b (hr.mono (by decide))) (pv 6) (pv 9)) (pa_cons (pe_op (op_binOwn OA.sf OA.at_ OA.fn OA.ok OA.b (hr.mono (by decide))) (pv 6) (pv 8)) pa_nil))))) (pw_or1 (pt_not (pt_val (pe_df D_never_more (hr.mono (by decide)) (by rfl) (pa_cons (pe_op (op_binOwn OA.sf OA.at_ OA.fn OA.ok OA.b (hr.mono (by decide))) (pv 9) (pv 6)) (pa_cons (pe_op (op_binOwn OA.sf OA.at_ OA.fn OA.ok OA.b (hr.mono (by decide))) (pv 8) (pv 6)) pa_nil)))))))) (pss_one (ps_ret pe_bl)) pss_nil)
      (pss_one (ps_if (pt_not (pt_val (pe_df D_law_limits_right (hr.mono (by decide)) (by rfl) (pa_cons (pe_prop (pe_make X_lad.m X_lad.fn (hr.mono (by decide)) rfl T.mgL X_lad.bd .nil pass0 (pa_cons (pv 9) (pa_cons pe_int pa_nil))) T.clL OM.pr OM.ok (hr.mono (by decide)) OM.b .nil pass0 rfl) (pa_cons (pe_prop (pe_make X_lad.m X_lad.fn (hr.mono (by decide)) rfl T.mgL X_lad.bd .nil pass0 (pa_cons (pv 8) (pa_cons pe_int pa_nil))) T.clL OM.pr OM.ok (hr.mono (by decide)) OM.b .nil pass0 rfl) pa_nil))))) (pss_one (ps_ret pe_bl)) pss_nil)))) pss_nil))))))))))))))
      (pss_one (ps_ret pe_bl))), ?_⟩
    refine ⟨5, rfl, by decide, by decide, ?_⟩
    refine for_range (lo := 0) (n := Int.toNat 5) (fun i σ H' => (∃ v1 v2 v3 v4 v5 v6 v7 v8 v9 v10 v11 v12, σ = [some (.ref c), v1, v2, v3, v4, v5, v6, v7, v8, v9, v10, v11, v12]) ∧ But c H H' ∧ CupAt c H') ⟨⟨none, none, none, none, none, none, none, none, none, none, none, none, rfl⟩, But.refl _ _, hc⟩ ?_ ?_
    · rintro u σ H1 hu ⟨⟨v1, v2, v3, v4, v5, v6, v7, v8, v9, v10, v11, v12, rfl⟩, b1, hc1⟩
      -- the rows
      refine ⟨fun σ' H' => ∃ (a : Addr) (r : List Pc), σ' = [some (.ref c), some (.int (0 + u)), some (.ref a), v3, v4, v5, v6, v7, v8, v9, v10, v11, v12] ∧ But c H H' ∧ CupAt c H' ∧ a ≠ c ∧ RowL H' a r ∧ RowOk r ∧ 1 ≤ r.length ∧ r.length ≤ 3, ?_, ?_⟩
      · exact ⟨_, rfl, c, 3, rfl, hc1, by decide, by decide, fun H2 a r b2 hc2 na nac hA hok l1 lm => ⟨a, r, rfl, b1.trans b2, hc2, nac, hA, hok, l1, by omega⟩⟩
      rintro σ' H2 ⟨a, r0, rfl, b2, hc2, nac, hA, ok0, l01, l03⟩
      clear b1 hc1
      refine ⟨fun σ' H' => ∃ (l : Addr) (ws : List V) (rs : List (List Pc)), σ' = [some (.ref c), some (.int (0 + u)), some (.ref a), some (.ref l), v4, v5, v6, v7, v8, v9, v10, v11, v12] ∧ But c H H' ∧ CupAt c H' ∧ H' l = some (.lst ws) ∧ LsA (fun a r => RowL H' a r) ws rs ∧ rs.length = 3 ∧ ∀ r ∈ rs, RowOk r ∧ 1 ≤ r.length ∧ r.length ≤ 4, ?_, ?_⟩
      · refine ⟨_, rfl, _, rfl, _, rfl, c, a, r0, rfl, hc2, nac, hA, ok0, l01, l03, fun H3 a1 r1 b3 hc3 nac1 hA1 ok1 l11 l14 => ?_⟩
        have hA3 := hA.but hc2 nac b3
        refine ⟨_, rfl, _, rfl, c, a, r0, rfl, hc3, nac, hA3, ok0, l01, l03, fun H4 a2 r2 b4 hc4 nac2 hA2 ok2 l21 l24 => ⟨(by show 3 ≤ sizeLine; decide), fun l nl => ?_⟩⟩
        have sl := same_upd (o := .lst [.ref a, .ref a1, .ref a2]) nl
        refine ⟨l, _, [r0, r1, r2], rfl, ((b2.trans b3).trans b4).trans (But.of sl), hc4.same sl, upd_same, (((LsA.nil _).snoc ((hA3.but hc3 nac b4).same sl)).snoc ((hA1.but hc3 nac1 b4).same sl)).snoc (hA2.same sl), rfl, fun r hr => ?_⟩
        simp only [List.mem_cons, List.not_mem_nil, or_false] at hr
        rcases hr with rfl | rfl | rfl
        · exact ⟨ok0, l01, by omega⟩
        · exact ⟨ok1, l11, l14⟩
        · exact ⟨ok2, l21, l24⟩
      rintro σ' H3 ⟨l, ws, rs, rfl, b3, hc3, hl, hws, lrs, hrs⟩
      clear b2 hc2 hA ok0 l01 l03
      have lws := hws.1
      have okr : ∀ {i : Nat} {r : List Pc}, rs[i]? = some r → RowOk r ∧ 1 ≤ r.length ∧ r.length ≤ 4 := fun h => hrs _ (List.mem_of_getElem? h)
      -- some
      refine ⟨fun σ' H' => ∃ (m : Addr) (xs : List V) (w5 : Option V), σ' = [some (.ref c), some (.int (0 + u)), some (.ref a), some (.ref l), some (.ref m), w5, v6, v7, v8, v9, v10, v11, v12] ∧ But c H H' ∧ CupAt c H' ∧ m ≠ c ∧ H' m = some (.lst xs) ∧ LsA (fun a r => PatAt C H' a r) xs rs, ?_, ?_⟩
      · refine ⟨_, rfl, l, rfl, ⟨_, SqL.of hl⟩, fun D hD => ?_⟩
        refine lc_list (K := K) (a := l) (xs := ws) (fun j H' => But D H3 H' ∧ ∃ xs, H' D = some (.lst xs) ∧ LsA (fun a r => PatAt C H' a r) xs (rs.take j)) ⟨But.upd, [], upd_same, LsA.nil _⟩ (fun j H' _ h => SqL.of (h.1 _ _ (ne_of_none hl hD) hl)) ?_ ?_
        · rintro j v H' hj ⟨bD, xs, hDi, hxs⟩
          obtain ⟨b, r, rfl, hr', hb⟩ := hws.of hj
          obtain ⟨okR, l1, l4⟩ := okr hr'
          have sD : Same H3 H' := fun q o e => bD _ _ (ne_of_none e hD) e
          have tk : rs.take (j + 1) = rs.take j ++ [r] := by
            rw [List.take_succ, hr']
            rfl
          have jl := (List.getElem?_eq_some_iff.mp hj).1
          refine ⟨rfl, ?_⟩
          unfold tYes
          refine iteT ?_
          refine ⟨_, rfl, b, r, rfl, hb.same sD, okR, l1, by omega, fun H5 x s5 nx hx => ?_⟩
          have hD5 := s5 _ _ hDi
          have bu : But D H5 (upd H5 D (.lst (xs ++ [.ref x]))) := But.upd
          have lx : xs.length ≤ 3 := by
            rw [hxs.1, List.length_take]
            omega
          refine ⟨_, hD5, small1000 (by omega), (bD.trans (But.of s5)).trans bu, _, upd_same, ?_⟩
          rw [tk]
          exact ((hxs.mono fun _ _ h => h.same s5).snoc hx).mono fun _ _ h => h.butL hD5 bu
        · rintro H' ⟨bD, xs, hDi, hxs⟩
          rw [lws, List.take_length] at hxs
          have sD : Same H3 H' := fun q o e => bD _ _ (ne_of_none e hD) e
          exact ⟨D, xs, _, rfl, b3.trans (But.of sD), hc3.same sD, (hc3.ne hD).symm, hDi, hxs⟩
      rintro σ' H4 ⟨m, xs, w5, rfl, b4, hc4, nmc, hm, hxs⟩
      clear b3 hc3 hl hws lws
      have lxs := hxs.1
      -- the part
      refine ⟨fun σ' H' => ∃ (p : Addr) (rp : List Pc), σ' = [some (.ref c), some (.int (0 + u)), some (.ref a), some (.ref l), some (.ref m), w5, some (.ref p), v7, v8, v9, v10, v11, v12] ∧ But c H H' ∧ CupAt c H' ∧ H' m = some (.lst xs) ∧ LsA (fun a r => PatAt C H' a r) xs rs ∧ PatAt C H' p rp ∧ RowOk rp ∧ 1 ≤ rp.length ∧ rp.length ≤ 3, ?_, ?_⟩
      · refine ⟨_, rfl, c, 3, rfl, hc4, by decide, by decide, fun H5 b rp b5 hc5 nb nbc hB okp l1 lm => ?_⟩
        refine ⟨b, rp, rfl, hB, okp, l1, by omega, fun H6 p s6 np hp => ?_⟩
        obtain ⟨cu, cv, hcu, _⟩ := id hc4
        exact ⟨p, rp, rfl, (b4.trans b5).trans (But.of s6), hc5.same s6, s6 _ _ (b5 _ _ nmc hm), hxs.mono fun _ _ h => (h.butL hcu b5).same s6, hp, okp, l1, by omega⟩
      rintro σ' H5 ⟨p, rp, rfl, b5, hc5, hm5, hxs5, hp5, okp, lp1, lp3⟩
      clear b4 hc4 hm hxs
      -- what is told
      refine ⟨fun σ' H' => ∃ (tl : Addr) (ts : List V) (w8 w9 : Option V), σ' = [some (.ref c), some (.int (0 + u)), some (.ref a), some (.ref l), some (.ref m), w5, some (.ref p), some (.ref tl), w8, w9, v10, v11, v12] ∧ SO C H c m p tl xs ts rs rp H', ?_, ?_⟩
      · refine ⟨_, rfl, m, rfl, ⟨_, SqL.of hm5⟩, fun D hD => ?_⟩
        refine lc_list (K := K) (a := m) (xs := xs) (fun j H' => But D H5 H' ∧ ∃ ts, H' D = some (.lst ts) ∧ LsA (fun a r => a ≠ D ∧ H' a = some (.lst (bls r rs))) ts (rs.take j)) ⟨But.upd, [], upd_same, LsA.nil _⟩ (fun j H' _ h => SqL.of (h.1 _ _ (ne_of_none hm5 hD) hm5)) ?_ ?_
        · rintro j v H' hj ⟨bD, ts, hDi, hts⟩
          obtain ⟨x, r, rfl, hr', hx⟩ := hxs5.of hj
          obtain ⟨okR, l1, l4⟩ := okr hr'
          have sD : Same H5 H' := fun q o e => bD _ _ (ne_of_none e hD) e
          have tk : rs.take (j + 1) = rs.take j ++ [r] := by
            rw [List.take_succ, hr']
            rfl
          have jl := (List.getElem?_eq_some_iff.mp hj).1
          refine ⟨rfl, ?_⟩
          rw [yes_app]
          refine iteT ?_
          have hm6 := sD _ _ hm5
          refine ⟨_, rfl, m, rfl, ⟨_, SqL.of hm6⟩, fun D2 hD2 => ?_⟩
          refine lc_list (K := K) (a := m) (xs := xs) (g := gName 8) (tt := tYes) (fun j2 H'' => But D2 H' H'' ∧ H'' D2 = some (.lst (bls r (rs.take j2)))) ⟨But.upd, upd_same⟩ (fun j2 H'' _ h => SqL.of (h.1 _ _ (ne_of_none hm6 hD2) hm6)) ?_ ?_
          · rintro j2 v2 H'' hj2 ⟨bD2, hDi2⟩
            obtain ⟨y, r2, rfl, hr2, hy⟩ := hxs5.of hj2
            obtain ⟨okR2, l21, l24⟩ := okr hr2
            have sD2 : Same H' H'' := fun q o e => bD2 _ _ (ne_of_none e hD2) e
            have j2l := (List.getElem?_eq_some_iff.mp hj2).1
            refine ⟨rfl, ?_⟩
            unfold tYes
            refine iteT ?_
            refine ⟨_, rfl, _, rfl, x, y, r, r2, rfl, (hx.same sD).same sD2, (hy.same sD).same sD2, okR, okR2, by omega, by omega, fun H7 s7 => ?_⟩
            refine ⟨_, s7 _ _ hDi2, ?_, ?_, ?_⟩
            · unfold bls
              rw [List.length_map, List.length_take]
              exact small1000 (by omega)
            · exact (bD2.trans (But.of s7)).trans But.upd
            · rw [upd_same, List.take_succ, hr2]
              unfold bls
              simp
          · rintro H'' ⟨bD2, hDn2⟩
            rw [lxs, List.take_length] at hDn2
            have sD2 : Same H' H'' := fun q o e => bD2 _ _ (ne_of_none e hD2) e
            have nDD : D2 ≠ D := (ne_of_none hDi hD2).symm
            have hD'' := sD2 _ _ hDi
            have bu : But D H'' (upd H'' D (.lst (ts ++ [.ref D2]))) := But.upd
            have lt : ts.length ≤ 3 := by
              rw [hts.1, List.length_take]
              omega
            refine ⟨_, hD'', small1000 (by omega), (bD.trans (But.of sD2)).trans bu, _, upd_same, ?_⟩
            rw [tk]
            have h1 : LsA (fun a r => a ≠ D ∧ H'' a = some (.lst (bls r rs))) ts (rs.take j) := hts.mono fun a r h => ⟨h.1, sD2 _ _ h.2⟩
            have h2 : LsA (fun a r => a ≠ D ∧ H'' a = some (.lst (bls r rs))) (ts ++ [.ref D2]) (rs.take j ++ [r]) := h1.snoc ⟨nDD, hDn2⟩
            exact h2.mono fun a r h => ⟨h.1, bu _ _ h.1 h.2⟩
        · rintro H' ⟨bD, ts, hDi, hts⟩
          rw [lxs, List.take_length] at hts
          have sD : Same H5 H' := fun q o e => bD _ _ (ne_of_none e hD) e
          exact ⟨D, ts, _, _, rfl, ⟨b5.trans (But.of sD), hc5.same sD, sD _ _ hm5, hxs5.mono fun _ _ h => h.same sD, hp5.same sD, hDi, hts.mono fun _ _ h => h.2⟩⟩
      rintro σ' H6 ⟨tl, ts, w8, w9, rfl, S6⟩
      clear b5 hc5 hm5 hxs5 hp5
      -- all pairs
      refine ⟨3, rfl, by decide, by decide, ?_⟩
      refine for_range (lo := 0) (n := Int.toNat 3) (fun i σ H' => (∃ w8 w9 w10 w11 w12, σ = [some (.ref c), some (.int (0 + u)), some (.ref a), some (.ref l), some (.ref m), w5, some (.ref p), some (.ref tl), w8, w9, w10, w11, w12]) ∧ SO C H c m p tl xs ts rs rp H') ⟨⟨_, _, _, _, _, rfl⟩, S6⟩ ?_ ?_
      · rintro i σ H7 hi ⟨⟨w8, w9, w10, w11, w12, rfl⟩, S7⟩
        have hi : i < 3 := hi
        refine ⟨3, rfl, by decide, by decide, ?_⟩
        refine for_range (lo := 0) (n := Int.toNat 3) (fun j σ H' => (∃ w8 w9 w11 w12, σ = [some (.ref c), some (.int (0 + u)), some (.ref a), some (.ref l), some (.ref m), w5, some (.ref p), some (.ref tl), w8, w9, some (.int (0 + (i : Int))), w11, w12]) ∧ SO C H c m p tl xs ts rs rp H') ⟨⟨_, _, _, _, rfl⟩, S7⟩ ?_ ?_
        · rintro j σ H8 hj ⟨⟨w8, w9, w11, w12, rfl⟩, S8⟩
          have hj : j < 3 := hj
          have gi : rs[i]? = some rs[i] := List.getElem?_eq_getElem (by omega)
          have gj : rs[j]? = some rs[j] := List.getElem?_eq_getElem (by omega)
          obtain ⟨oki, li1, li4⟩ := okr gi
          obtain ⟨okj, lj1, lj4⟩ := okr gj
          generalize hri : rs[i] = ri at *
          generalize hrj : rs[j] = rj at *
          have bl : ∀ {r r' : List Pc} {k : Nat}, rs[k]? = some r' → (bls r rs)[k]? = some (.bl (nmB r r')) := fun h => by
            unfold bls
            rw [List.getElem?_map, h]
            rfl
          obtain ⟨ti, hti, _⟩ := S8.ts.2 i ri gi
          obtain ⟨tj, htj, _⟩ := S8.ts.2 j rj gj
          obtain ⟨xi, hxi, _⟩ := S8.ps.2 i ri gi
          obtain ⟨xj, hxj, _⟩ := S8.ps.2 j rj gj
          have Ti : ∀ {HH : Hp}, SO C H c m p tl xs ts rs rp HH → HH ti = some (.lst (bls ri rs)) := fun S => by
            obtain ⟨t, h1, h2⟩ := S.ts.2 i ri gi
            rw [hti] at h1
            cases h1
            exact h2
          have Tj : ∀ {HH : Hp}, SO C H c m p tl xs ts rs rp HH → HH tj = some (.lst (bls rj rs)) := fun S => by
            obtain ⟨t, h1, h2⟩ := S.ts.2 j rj gj
            rw [htj] at h1
            cases h1
            exact h2
          have Xi : ∀ {HH : Hp}, SO C H c m p tl xs ts rs rp HH → PatAt C HH xi ri := fun S => by
            obtain ⟨t, h1, h2⟩ := S.ps.2 i ri gi
            rw [hxi] at h1
            cases h1
            exact h2
          have Xj : ∀ {HH : Hp}, SO C H c m p tl xs ts rs rp HH → PatAt C HH xj rj := fun S => by
            obtain ⟨t, h1, h2⟩ := S.ps.2 j rj gj
            rw [hxj] at h1
            cases h1
            exact h2
          -- an order
          refine ⟨fun σ' H' => σ' = [some (.ref c), some (.int (0 + u)), some (.ref a), some (.ref l), some (.ref m), w5, some (.ref p), some (.ref tl), w8, w9, some (.int (0 + (i : Int))), some (.int (0 + (j : Int))), w12] ∧ SO C H c m p tl xs ts rs rp H', ?_, ?_⟩
          · refine ⟨_, rfl, _, rfl, rfl, _, rfl, ite2 (fun e => ?_) (fun e => iteF ?_)⟩
            · have e0 : (0 : Int) + (i : Int) = 0 + (j : Int) := V.int.inj (of_decide_eq_true e)
              have e1 : i = j := by omega
              have e2 : nmB ri rj = true := by
                have : ri = rj := by
                  rw [← hri, ← hrj]
                  simp [e1]
                rw [this]
                exact nm_refl _
              refine ⟨_, rfl, _, rfl, tl, _, _, _, rfl, rfl, SqL.of S8.tl, atI0 hti, _, rfl, ti, _, _, _, rfl, rfl, SqL.of (Ti S8), atI0 (bl gj), ?_⟩
              rw [e2]
              refine ⟨true, rfl, iteF ?_⟩
              refine ⟨_, rfl, _, rfl, tl, _, _, _, rfl, rfl, SqL.of S8.tl, atI0 hti, _, rfl, ti, _, _, _, rfl, rfl, SqL.of (Ti S8), atI0 (bl gj), _, rfl, ite2 (fun n1 => ?_) (fun _ => iteF ⟨rfl, S8⟩)⟩
              have four : nmB rj ri = decide (fourOf ri = fourOf rj) := by
                have := nm_four oki okj
                cases hb : nmB rj ri with
                | true => exact (decide_eq_true (this.mp ⟨n1, hb⟩)).symm
                | false => exact (decide_eq_false (fun z => by have := (this.mpr z).2; rw [show nmR rj ri = nmB rj ri from rfl, hb] at this; cases this)).symm
              obtain ⟨dx, qx, mx', fx, hix⟩ := ins_of (Xi S8)
              obtain ⟨dy, qy, my, fy, hiy⟩ := ins_of (Xj S8)
              refine ⟨_, rfl, _, rfl, tl, _, _, _, rfl, rfl, SqL.of S8.tl, atI0 htj, _, rfl, tj, _, _, _, rfl, rfl, SqL.of (Tj S8), atI0 (bl gi), _, rfl, _, rfl, m, _, _, _, rfl, rfl, SqL.of S8.m, atI0 hxi, _, rfl, _, rfl, m, _, _, _, rfl, rfl, SqL.of S8.m, atI0 hxj, xi, dx, _, _, rfl, hix, .base (.ins hiy T.cl I.ca I.cn I.ct I.cm), nfC, xi, xj, ri, rj, rfl, Xi S8, Xj S8, rfl, _, rfl, ite2 (fun e => ?_) (fun _ => ⟨rfl, S8⟩)⟩
              rw [four] at e
              exact absurd e (ne_selfB _)
            · refine ⟨_, rfl, _, rfl, tl, _, _, _, rfl, rfl, SqL.of S8.tl, atI0 hti, _, rfl, ti, _, _, _, rfl, rfl, SqL.of (Ti S8), atI0 (bl gj), _, rfl, ite2 (fun n1 => ?_) (fun _ => iteF ⟨rfl, S8⟩)⟩
              have four : nmB rj ri = decide (fourOf ri = fourOf rj) := by
                have := nm_four oki okj
                cases hb : nmB rj ri with
                | true => exact (decide_eq_true (this.mp ⟨n1, hb⟩)).symm
                | false => exact (decide_eq_false (fun z => by have := (this.mpr z).2; rw [show nmR rj ri = nmB rj ri from rfl, hb] at this; cases this)).symm
              obtain ⟨dx, qx, mx', fx, hix⟩ := ins_of (Xi S8)
              obtain ⟨dy, qy, my, fy, hiy⟩ := ins_of (Xj S8)
              refine ⟨_, rfl, _, rfl, tl, _, _, _, rfl, rfl, SqL.of S8.tl, atI0 htj, _, rfl, tj, _, _, _, rfl, rfl, SqL.of (Tj S8), atI0 (bl gi), _, rfl, _, rfl, m, _, _, _, rfl, rfl, SqL.of S8.m, atI0 hxi, _, rfl, _, rfl, m, _, _, _, rfl, rfl, SqL.of S8.m, atI0 hxj, xi, dx, _, _, rfl, hix, .base (.ins hiy T.cl I.ca I.cn I.ct I.cm), nfC, xi, xj, ri, rj, rfl, Xi S8, Xj S8, rfl, _, rfl, ite2 (fun e => ?_) (fun _ => ⟨rfl, S8⟩)⟩
              rw [four] at e
              exact absurd e (ne_selfB _)
          rintro σ' H9 ⟨rfl, S9⟩
          clear S8
          -- and a third one
          refine ⟨fun σ' H' => ∃ w12, σ' = [some (.ref c), some (.int (0 + u)), some (.ref a), some (.ref l), some (.ref m), w5, some (.ref p), some (.ref tl), w8, w9, some (.int (0 + (i : Int))), some (.int (0 + (j : Int))), w12] ∧ SO C H c m p tl xs ts rs rp H', ?_, ?_⟩
          · refine ⟨3, rfl, by decide, by decide, fun D hD => ?_⟩
            refine lc_range (lo := 0) (fun k H' => But D H9 H' ∧ H' D = some (.lst [])) ⟨But.upd, upd_same⟩ ?_ ?_
            · rintro k H' hk ⟨bD, hDi⟩
              have hk : k < 3 := hk
              have gk : rs[k]? = some rs[k] := List.getElem?_eq_getElem (by omega)
              obtain ⟨okk, lk1, lk4⟩ := okr gk
              generalize rs[k] = rk at *
              have S' := S9.same (H' := H') fun q o e => bD _ _ (ne_of_none e hD) e
              refine ⟨rfl, _, rfl, _, rfl, tl, _, _, _, rfl, rfl, SqL.of S'.tl, atI0 hti, _, rfl, ti, _, _, _, rfl, rfl, SqL.of (Ti S'), atI0 (bl gj), _, rfl, ite2 (fun n1 => ?_) (fun _ => iteF ⟨bD, hDi⟩)⟩
              refine ⟨_, rfl, _, rfl, tl, _, _, _, rfl, rfl, SqL.of S'.tl, atI0 htj, _, rfl, tj, _, _, _, rfl, rfl, SqL.of (Tj S'), atI0 (bl gk), _, rfl, ite2 (fun n2 => ?_) (fun _ => iteF ⟨bD, hDi⟩)⟩
              have n3 : nmB ri rk = true := nm_trans oki okj okk n1 n2
              refine ⟨_, rfl, _, rfl, tl, _, _, _, rfl, rfl, SqL.of S'.tl, atI0 hti, _, rfl, ti, _, _, _, rfl, rfl, SqL.of (Ti S'), atI0 (bl gk), ?_⟩
              rw [n3]
              exact ⟨true, rfl, iteF ⟨bD, hDi⟩⟩
            · rintro H' ⟨bD, hDn⟩
              have sD : Same H9 H' := fun q o e => bD _ _ (ne_of_none e hD) e
              refine ⟨Nat.zero_le _, fun l0 n0 => ?_⟩
              have s0 := same_upd (o := .lst []) n0
              exact ⟨_, _, .lst (SqL.of (s0 _ _ hDn)) .nil, .lst (SqL.of upd_same) .nil, rfl, rfl, _, rfl, ite2 (fun e => absurd e (by decide)) (fun _ => ⟨_, rfl, S9.same (sD.trans s0)⟩)⟩
          rintro σ' HA ⟨w12, rfl, SA⟩
          clear S9
          -- in front, behind, and for ever
          refine ⟨_, rfl, _, rfl, tl, _, _, _, rfl, rfl, SqL.of SA.tl, atI0 hti, _, rfl, ti, _, _, _, rfl, rfl, SqL.of (Ti SA), atI0 (bl gj), _, rfl, ite2 (fun n1 => ?_) (fun _ => ⟨⟨_, _, _, _, rfl⟩, SA⟩)⟩
          refine ⟨_, rfl, _, rfl, m, _, _, _, rfl, rfl, SqL.of SA.m, atI0 hxi, _, rfl, _, rfl, m, _, _, _, rfl, rfl, SqL.of SA.m, atI0 hxj, _, _, rfl, ?_⟩
          have SB := SA
          clear SA
          have nF := nm_front okp oki okj n1
          have nB := nm_back okp oki okj n1
          have lpi : (rp ++ ri).length ≤ 8 := by rw [List.length_append]; omega
          have lpj : (rp ++ rj).length ≤ 8 := by rw [List.length_append]; omega
          have lip : (ri ++ rp).length ≤ 8 := by rw [List.length_append]; omega
          have ljp : (rj ++ rp).length ≤ 8 := by rw [List.length_append]; omega
          obtain ⟨dp, qp, mp', fp', hip⟩ := ins_of SB.part
          obtain ⟨dx, qx, mx', fx, hix⟩ := ins_of (Xi SB)
          refine ⟨_, rfl, _, rfl, p, dp, _, xi, dx, _, rfl, hip, rfl, hix, p, xi, rp, ri, rfl, SB.part, Xi SB, okp, oki, lp1, li1, by omega, fun HC y1 sC ny1 hy1 => ?_⟩
          have SC := SB.same sC
          obtain ⟨dp, qp, mp', fp', hip⟩ := ins_of SC.part
          obtain ⟨dx, qx, mx', fx, hix⟩ := ins_of (Xj SC)
          refine ⟨_, rfl, _, rfl, p, dp, _, xj, dx, _, rfl, hip, rfl, hix, p, xj, rp, rj, rfl, SC.part, Xj SC, okp, okj, lp1, lj1, by omega, fun HD y2 sD ny2 hy2 => ?_⟩
          have SD := SC.same sD
          refine ⟨y1, y2, rp ++ ri, rp ++ rj, rfl, hy1.same sD, hy2, okp.app oki, okp.app okj, lpi, lpj, fun HE sE => ?_⟩
          rw [show nmB (rp ++ ri) (rp ++ rj) = true from nF]
          have SE := SD.same sE
          refine ⟨true, rfl, iteF ?_⟩
          obtain ⟨dp, qp, mp', fp', hip⟩ := ins_of SE.part
          obtain ⟨dx, qx, mx', fx, hix⟩ := ins_of (Xi SE)
          refine ⟨_, rfl, _, rfl, xi, dx, _, p, dp, _, rfl, hix, rfl, hip, xi, p, ri, rp, rfl, Xi SE, SE.part, oki, okp, li1, lp1, by omega, fun HF y3 sF ny3 hy3 => ?_⟩
          have SF := SE.same sF
          obtain ⟨dp, qp, mp', fp', hip⟩ := ins_of SF.part
          obtain ⟨dx, qx, mx', fx, hix⟩ := ins_of (Xj SF)
          refine ⟨_, rfl, _, rfl, xj, dx, _, p, dp, _, rfl, hix, rfl, hip, xj, p, rj, rp, rfl, Xj SF, SF.part, okj, okp, lj1, lp1, by omega, fun HG y4 sG ny4 hy4 => ?_⟩
          have SG := SF.same sG
          refine ⟨y3, y4, ri ++ rp, rj ++ rp, rfl, hy3.same sG, hy4, oki.app okp, okj.app okp, lip, ljp, fun HI sI => ?_⟩
          rw [show nmB (ri ++ rp) (rj ++ rp) = true from nB]
          have SI := SG.same sI
          refine ⟨true, rfl, iteF ?_⟩
          refine ⟨_, rfl, fun z dz nz ndz nez => make_lad nz ndz (Xi SI) oki (by omega) (.inl ⟨3, rfl, by decide, by decide, rfl⟩) fun HJ sJ hz => ?_⟩
          obtain ⟨dz', fz, hzi⟩ := hz.ins
          refine ⟨z, dz', _, rfl, hzi, z, _, _, rfl, hz, fun v hv => ?_⟩
          have SJ := SI.same sJ
          refine ⟨_, rfl, fun z2 dz2 nz2 ndz2 nez2 => make_lad nz2 ndz2 (Xj SJ) okj (by omega) (.inl ⟨3, rfl, by decide, by decide, rfl⟩) fun HK sK hz2 => ?_⟩
          obtain ⟨dz2', fz2, hzi2⟩ := hz2.ins
          refine ⟨z2, dz2', _, rfl, hzi2, z2, _, _, rfl, hz2, fun v2 hv2 => ?_⟩
          have SK := SJ.same sK
          exact ⟨v, v2, ri, rj, rfl, hv.same sK, hv2, oki, okj, by omega, by omega, n1, fun HL sL => ⟨true, rfl, iteF ⟨⟨_, _, _, _, rfl⟩, SK.same sL⟩⟩⟩
        · rintro σ H8 ⟨⟨w8, w9, w11, w12, rfl⟩, S8⟩
          exact ⟨⟨_, _, _, _, _, rfl⟩, S8⟩
      · rintro σ H7 ⟨⟨w8, w9, w10, w11, w12, rfl⟩, S7⟩
        exact ⟨⟨_, _, _, _, _, _, _, _, _, _, _, _, rfl⟩, S7.but, S7.cup⟩
    · rintro σ H1 ⟨⟨v1, v2, v3, v4, v5, v6, v7, v8, v9, v10, v11, v12, rfl⟩, b1, hc1⟩
      exact kq _ b1
end
end RL

set_option maxHeartbeats 4000000
namespace RL
open PySem L2 PySem.Spec PyProof.Rows
def spLaw (K : PySem.W.Frag) : Sp := fun vs H Q _ => ∃ (a : Addr) (ns : List Int), vs = [.ref a] ∧ SqL K H a (ns.map V.int) ∧ ns.length ≤ 63 ∧ ∀ H', Q (.bl true) H'
theorem seq_but {K : PySem.W.Frag} {H H' : Hp} {D a : Addr} {xs : List V} (h : SqL K H a xs) (n : H D = none) (b : But D H H') : SqL K H' a xs := by
  rcases h with (h | ⟨o, h⟩) | h
  · exact .inl (.inl (b _ _ (ne_of_none h n) h))
  · exact .inl (.inr ⟨o, b _ _ (ne_of_none h n) h⟩)
  · exact .inr h
theorem make_lit {C J : Addr} {H : Hp} {z dz : Addr} {ws : List V} {r : List Pc} {R : Hp → Prop} (nz : H z = none) (ndz : H dz = none) (hw : PiecesAt H ws r) (hok : RowOk r) (l1 : 1 ≤ r.length) (l4 : r.length ≤ 4) (k : ∀ H', Same H H' → PatAt C H' z r → R H') :
    star1 (spPI C J) (.ref z :: ws) (upd (upd H dz (.own z)) z (.ins C dz [])) (fun v H3 => v = .non ∧ R H3) E0 := by
  refine ⟨[.ref z], ws, rfl, rfl, Nat.le_trans (by rw [hw.1]; omega) (small1000 (show 4 ≤ 1000 by decide)), fun p np => ?_⟩
  have s2 : Same H (upd (upd H dz (.own z)) z (.ins C dz [])) := fun b o e => by
    rw [upd_ne (ne_of_none e nz), upd_ne (ne_of_none e ndz)]
    exact e
  have s3 := s2.trans (same_upd (o := .tup ws) np)
  have hz : (upd (upd (upd H dz (.own z)) z (.ins C dz [])) p (.tup ws)) z = some (.ins C dz []) := by
    rw [upd_ne (ne_of_none (upd_same (H := upd H dz (.own z)) (a := z) (o := .ins C dz [])) np), upd_same]
  refine ⟨z, dz, p, r, rfl, hz, hok, l1, by omega, .inr ⟨ws, upd_same, hw.same s3, l4⟩, fun H' b hP => ⟨rfl, k H' ?_ hP⟩⟩
  intro b' o e
  exact b _ _ (ne_of_none e nz) (s3 _ _ e)
theorem okp {r : Bool} {o : Int} (h1 : 1 ≤ o) (h2 : o ≤ 12) : RowOk [(r, o)] := RowOk.one ⟨h1, h2⟩
theorem ok2 {r r' : Bool} {o o' : Int} (h1 : 1 ≤ o) (h2 : o ≤ 12) (h3 : 1 ≤ o') (h4 : o' ≤ 12) : RowOk [(r, o), (r', o')] := (okp h1 h2).app (okp h3 h4)
theorem pcs2 {H : Hp} {t t' : Addr} {r r' : Bool} {o o' : Int} (h : H t = some (.tup [.str (wd r), .int o])) (h' : H t' = some (.tup [.str (wd r'), .int o'])) : PiecesAt H [.ref t, .ref t'] [(r, o), (r', o')] := (pcs1 h).app (pcs1 h')
abbrev rG : List Pc := [(false, 3), (true, 2)]
abbrev rZ : List Pc := [(true, 2)]
theorem m_GZ : nmB rG rZ = true := by decide +kernel
theorem m_ZG : nmB rZ rG = false := by decide +kernel
theorem m_GG : nmB (rG ++ rG) (rG ++ rZ) = true := by decide +kernel
section
variable {P : Program} {w : World} {K : PySem.W.Frag} {mg : Str → Option Value} {base : Heap} {tG t1 t2 t3 : Tok} {aO aW J C fP fJ ga : Addr} {fdJ fa : FuncData}
abbrev s_law : Stmt := top 78
theorem sc_law : FnScope ["_law_script", "_law_low_one", "_law_more", "_law_spot"] ["_law_script"] (defScope s_law) := ⟨rfl, rfl, rfl, by decide +kernel, rfl, by decide +kernel, by decide +kernel⟩

theorem ok_law {f : Addr} {fd : FuncData} (F : Fun K "law" "law" s_law f fd) (T : Txt3 K mg tG t1 t2 t3 aO aW J C) (X_pat : PatD P w K mg base C J fP) (OA : OwA P w K mg base C ga fa) (D_never_more : Df P w K mg base 5 "never_more" ["pattern", "other"] (spNM C))
    (D_law_cup : Df P w K mg base 1 "_law_cup" ["_law_script", "_law_spot"] (spCup K)) (D_law_right : DfG P w K mg base 11 "_law_right" ["_law_cup_here"] spRight) : FnG P w K mg base 12 f fd ["_law_script"] (spLaw K) := by
  refine okG F sc_law (fun vs H Q E h => ?_) (fun cdv A outer s H vs Q E hg hr h => ?_)
  · obtain ⟨a, ns, rfl, _⟩ := h
    rfl
  · obtain ⟨a, ns, rfl, hS, hlen, k⟩ := h
    refine ⟨_, (C8.pss_cut (ps_par (by rfl) sc_law.nd (i := 1) (j := 2) rfl rfl (by decide) rfl rfl (pa_cons (StX.pe_makeR X_pat.m X_pat.fn (hr.mono (by decide)) rfl T.mgC pass0 (pa_cons (pe_tup (pa_cons pe_str (pa_cons pe_int pa_nil))) (pa_cons (pe_tup (pa_cons pe_str (pa_cons pe_int pa_nil))) pa_nil))) (pa_cons (StX.pe_makeR X_pat.m X_pat.fn (hr.mono (by decide)) rfl T.mgC pass0 (pa_cons (pe_tup (pa_cons pe_str (pa_cons pe_int pa_nil))) pa_nil)) pa_nil)) (by rfl))
      (C8.pss_cut (ps_if (PW.pt (pw_or (pt_not (pt_val (pe_df D_never_more (hr.mono (by decide)) (by rfl) (pa_cons (pv 1) (pa_cons (pv 2) pa_nil))))) (pw_or (pt_val (pe_df D_never_more (hr.mono (by decide)) (by rfl) (pa_cons (pv 2) (pa_cons (pv 1) pa_nil)))) (pw_or1 (pt_not (pt_val (pe_df D_never_more (hr.mono (by decide)) (by rfl) (pa_cons (pe_op (op_binOwn OA.sf OA.at_ OA.fn OA.ok OA.b (hr.mono (by decide))) (pv 1) (pv 1)) (pa_cons (pe_op (op_binOwn OA.sf OA.at_ OA.fn OA.ok OA.b (hr.mono (by decide))) (pv 1) (pv 2)) pa_nil))))))))) (pss_one (ps_ret pe_bl)) pss_nil)
      (pss_one (ps_ret (pe_callB (cr_all rfl) (by rfl) T.all (by decide +kernel) (pa_cons (pe_lc (own := [("_law_spot", 3)]) (g := gName 3) (tt := tYes) rfl sc_law.nd (pi_range1 rfl T.range (pa_cons (pe_callB (call_max2 rfl) (by rfl) T.max (by decide +kernel) (pa_cons pe_int (pa_cons (pe_callB (call_min2 rfl) (by rfl) T.min (by decide +kernel) (pa_cons (pe_callB call_len_seq (by rfl) T.len (by decide +kernel) (pa_cons (pv 0) pa_nil)) (pa_cons pe_int pa_nil))) pa_nil))) pa_nil)) (blkOk_by (N := ["_law_script", "_law_low_one", "_law_more", "_law_spot"]) (sc := defScope s_law) (by decide +kernel)) (fun _ _ _ _ _ => pg_name (i := 3) sc_law.nd rfl (Or.inl rfl)) (fun _ _ _ _ _ => pts_nil) (fun _ _ _ _ _ => (pe_dfG D_law_right hg (hr.mono (by decide)) (by rfl) (pa_cons (pe_df D_law_cup (hr.mono (by decide)) (by rfl) (pa_cons (pv 0) (pa_cons (pv 3) pa_nil))) pa_nil)))) pa_nil)))))), ?_⟩
    have okG' : RowOk rG := ok2 (by decide) (by decide) (by decide) (by decide)
    have okZ : RowOk rZ := okp (by decide) (by decide)
    refine ⟨fun σ' H' => ∃ x y, σ' = [some (.ref a), some (.ref x), some (.ref y), none] ∧ Same H H' ∧ PatAt C H' x rG ∧ PatAt C H' y rZ, ?_, ?_⟩
    · refine ⟨(by show 2 ≤ sizeLine; decide), fun p0 np0 => ⟨(by show 2 ≤ sizeLine; decide), fun p1 np1 => ?_⟩⟩
      have sp0 := same_upd (o := .tup [.str (Str.ofString "rung"), .int 3]) np0
      have sp1 := same_upd (o := .tup [.str (Str.ofString "rail"), .int 2]) np1
      intro x dx nx ndx nex
      refine make_lit (r := rG) nx ndx (pcs2 (r := false) (r' := true) (sp1 _ _ upd_same) upd_same) okG' (by decide) (by decide) fun Hx sx hx => ?_
      refine ⟨(by show 2 ≤ sizeLine; decide), fun p2 np2 => ?_⟩
      have sp2 := same_upd (o := .tup [.str (Str.ofString "rail"), .int 2]) np2
      intro y dy ny ndy ney
      refine make_lit (r := rZ) ny ndy (pcs1 (r := true) (o := 2) upd_same) okZ (by decide) (by decide) fun Hy sy hy => ?_
      have sB := sp2.trans sy
      exact ⟨_, _, rfl, x, y, rfl, ((sp0.trans sp1).trans sx).trans sB, hx.same sB, hy⟩
    rintro σ' H1 ⟨x, y, rfl, s1, hx, hy⟩
    refine ⟨fun σ' H' => σ' = [some (.ref a), some (.ref x), some (.ref y), none] ∧ Same H H', ?_, ?_⟩
    · refine ⟨_, rfl, _, rfl, x, y, rG, rZ, rfl, hx, hy, okG', okZ, by decide, by decide, fun H2 s2 => ?_⟩
      rw [m_GZ]
      refine ⟨true, rfl, iteF ?_⟩
      have hx2 := hx.same s2
      have hy2 := hy.same s2
      refine ⟨_, rfl, _, rfl, y, x, rZ, rG, rfl, hy2, hx2, okZ, okG', by decide, by decide, fun H3 s3 => ?_⟩
      rw [m_ZG]
      refine ⟨false, rfl, iteF ?_⟩
      have hx3 := hx2.same s3
      have hy3 := hy2.same s3
      obtain ⟨dx, q, m, f', hix⟩ := ins_of hx3
      refine ⟨_, rfl, _, rfl, x, dx, _, x, dx, _, rfl, hix, rfl, hix, x, x, rG, rG, rfl, hx3, hx3, okG', okG', by decide, by decide, by decide, fun H4 z s4 nz hz => ?_⟩
      obtain ⟨dx, q, m, f', hix⟩ := ins_of (hx3.same s4)
      obtain ⟨dy, q', m', f'', hiy⟩ := ins_of (hy3.same s4)
      refine ⟨_, rfl, _, rfl, x, dx, _, y, dy, _, rfl, hix, rfl, hiy, x, y, rG, rZ, rfl, hx3.same s4, hy3.same s4, okG', okZ, by decide, by decide, by decide, fun H5 z2 s5 nz2 hz2 => ?_⟩
      refine ⟨z, z2, rG ++ rG, rG ++ rZ, rfl, hz.same s5, hz2, okG'.app okG', okG'.app okZ, by decide, by decide, fun H6 s6 => ?_⟩
      rw [m_GG]
      exact ⟨true, rfl, iteF ⟨rfl, ((((s1.trans s2).trans s3).trans s4).trans s5).trans s6⟩⟩
    rintro σ' H6 ⟨rfl, s6⟩
    have hSg := s6.seq hS
    refine ⟨_, rfl, a, _, rfl, .inl hSg, _, _, rfl, _, _, rfl, _, rfl, ?_, ?_, fun D hD => ?_⟩
    · split <;> split <;> omega
    · have : (List.map V.int ns).length = ns.length := List.length_map ..
      split <;> split <;> omega
    · refine lc_range (lo := 0) (fun i H' => But D _ H' ∧ H' D = some (.lst (List.replicate i (.bl true)))) ⟨But.upd, upd_same⟩ ?_ ?_
      · rintro i H1' hi ⟨bD, hDi⟩
        have hi63 : i ≤ 100 := by
          have : (List.map V.int ns).length = ns.length := List.length_map ..
          split at hi <;> split at hi <;> omega
        refine ⟨rfl, ?_⟩
        unfold tYes
        refine iteT ?_
        refine ⟨_, rfl, _, rfl, a, ns, i, ?_, seq_but hSg hD bD, hi63, hlen, fun H2' c sc nc hc => ?_⟩
        · show [V.ref a, V.int (0 + (i : Int))] = _
          rw [Int.zero_add]
        refine ⟨c, rfl, hc, fun H3' b3 => ?_⟩
        have nDc : D ≠ c := ne_of_none hDi nc
        refine ⟨_, b3 _ _ nDc (sc _ _ hDi), ?_, ?_, ?_⟩
        · rw [List.length_replicate]
          exact small1000 (by omega)
        · intro y o ny e
          rw [upd_ne ny]
          have hy1 := bD _ _ ny e
          exact b3 _ _ (ne_of_none hy1 nc) (sc _ _ hy1)
        · rw [upd_same, List.replicate_succ']
      · rintro H1' ⟨bD, hDn⟩
        refine ⟨D, List.replicate _ true, rfl, SqL.of (by rw [List.map_replicate]; exact hDn), ?_⟩
        have ea : ∀ n : Nat, (List.replicate n true).all id = true := fun n => by
          rw [List.all_eq_true]
          intro z hz
          rw [List.eq_of_mem_replicate hz]
          rfl
        rw [ea]
        exact k _
end
end RL

namespace RL
open PySem L2
set_option maxHeartbeats 4000000 in
theorem all_mk {l : PySem.W.OpenLaw} {w : World} {K : PySem.W.Frag} {h : Heap} {mg : Str → Option Value} (X : K.In h) (G : h.Ns mainGlobals mg) {fa aO aW J C f_JoinedRow_init f_Pattern_init f_Pattern_call f_Pattern_add f_Pattern_eq f_Pattern_read pr_Pattern_read f_is_integer f_is_integer_within f_is_pair_of_integers f_is_resistance f_pair_of f_common_divisor f_lowest_terms f_lowest_pair f_is_piece f_checked_row f_matrix_and_scale f_shown_before f_piece_text f_piece_with_text f_law_cup f_law_sip f_law_pick Ce Cl f_is_count f_fraction_text f_sign f_square_root f_under_root f_equation_of_fraction f_simplest_equation f_with_commas f_pair_order f_check_resistance f_check_count f_Exact_init f_check_pattern f_ladder_limit f_Ladder_init f_Ladder_after f_Ladder_call f_Ladder_goes pr_Ladder_goes f_Ladder_limit pr_Ladder_limit f_Exact_equation pr_Exact_equation f_Exact_fraction pr_Exact_fraction f_law_row f_law_words f_law_read f_Exact_eq f_beside_fraction f_sign_along_line f_Exact_order f_difference f_sign_at f_sign_far_out f_sign_from f_sign_towards f_limit_beside f_never_below f_never_more f_law_near f_law_limits_right f_law_right f_law : Addr}
    {od_JoinedRow_init an_JoinedRow_init od_Pattern_init an_Pattern_init od_Pattern_call an_Pattern_call od_Pattern_add an_Pattern_add od_Pattern_eq an_Pattern_eq od_Pattern_read an_Pattern_read od_is_integer an_is_integer od_is_integer_within an_is_integer_within od_is_pair_of_integers an_is_pair_of_integers od_is_resistance an_is_resistance od_pair_of an_pair_of od_common_divisor an_common_divisor od_lowest_terms an_lowest_terms od_lowest_pair an_lowest_pair od_is_piece an_is_piece od_checked_row an_checked_row od_matrix_and_scale an_matrix_and_scale od_shown_before an_shown_before od_piece_text an_piece_text od_piece_with_text an_piece_with_text od_law_cup an_law_cup od_law_sip an_law_sip od_law_pick an_law_pick od_is_count an_is_count od_fraction_text an_fraction_text od_sign an_sign od_square_root an_square_root od_under_root an_under_root od_equation_of_fraction an_equation_of_fraction od_simplest_equation an_simplest_equation od_with_commas an_with_commas od_pair_order an_pair_order od_check_resistance an_check_resistance od_check_count an_check_count od_Exact_init an_Exact_init od_check_pattern an_check_pattern od_ladder_limit an_ladder_limit od_Ladder_init an_Ladder_init od_Ladder_after an_Ladder_after od_Ladder_call an_Ladder_call od_Ladder_goes an_Ladder_goes od_Ladder_limit an_Ladder_limit od_Exact_equation an_Exact_equation od_Exact_fraction an_Exact_fraction od_law_row an_law_row od_law_words an_law_words od_law_read an_law_read od_Exact_eq an_Exact_eq od_beside_fraction an_beside_fraction od_sign_along_line an_sign_along_line od_Exact_order an_Exact_order od_difference an_difference od_sign_at an_sign_at od_sign_far_out an_sign_far_out od_sign_from an_sign_from od_sign_towards an_sign_towards od_limit_beside an_limit_beside od_never_below an_never_below od_never_more an_never_more od_law_near an_law_near od_law_limits_right an_law_limits_right od_law_right an_law_right od_law an_law : Option Addr} {sl_JoinedRow_init sl_Pattern_init sl_Pattern_call sl_Pattern_add sl_Pattern_eq sl_Pattern_read sl_is_integer sl_is_integer_within sl_is_pair_of_integers sl_is_resistance sl_pair_of sl_common_divisor sl_lowest_terms sl_lowest_pair sl_is_piece sl_checked_row sl_matrix_and_scale sl_shown_before sl_piece_text sl_piece_with_text sl_law_cup sl_law_sip sl_law_pick sl_is_count sl_fraction_text sl_sign sl_square_root sl_under_root sl_equation_of_fraction sl_simplest_equation sl_with_commas sl_pair_order sl_check_resistance sl_check_count sl_Exact_init sl_check_pattern sl_ladder_limit sl_Ladder_init sl_Ladder_after sl_Ladder_call sl_Ladder_goes sl_Ladder_limit sl_Exact_equation sl_Exact_fraction sl_law_row sl_law_words sl_law_read sl_Exact_eq sl_beside_fraction sl_sign_along_line sl_Exact_order sl_difference sl_sign_at sl_sign_far_out sl_sign_from sl_sign_towards sl_limit_beside sl_never_below sl_never_more sl_law_near sl_law_limits_right sl_law_right sl_law : Array (Option Value)}
    {oc_JoinedRow_init kV_JoinedRow_init dc_JoinedRow_init pm_JoinedRow_init cd_JoinedRow_init ct_JoinedRow_init oc_Pattern_init kV_Pattern_init dc_Pattern_init pm_Pattern_init cd_Pattern_init ct_Pattern_init oc_Pattern_call kV_Pattern_call dc_Pattern_call pm_Pattern_call cd_Pattern_call ct_Pattern_call oc_Pattern_add kV_Pattern_add dc_Pattern_add pm_Pattern_add cd_Pattern_add ct_Pattern_add oc_Pattern_eq kV_Pattern_eq dc_Pattern_eq pm_Pattern_eq cd_Pattern_eq ct_Pattern_eq oc_Pattern_read kV_Pattern_read dc_Pattern_read pm_Pattern_read cd_Pattern_read ct_Pattern_read oc_is_integer kV_is_integer dc_is_integer pm_is_integer cd_is_integer ct_is_integer oc_is_integer_within kV_is_integer_within dc_is_integer_within pm_is_integer_within cd_is_integer_within ct_is_integer_within oc_is_pair_of_integers kV_is_pair_of_integers dc_is_pair_of_integers pm_is_pair_of_integers cd_is_pair_of_integers ct_is_pair_of_integers oc_is_resistance kV_is_resistance dc_is_resistance pm_is_resistance cd_is_resistance ct_is_resistance oc_pair_of kV_pair_of dc_pair_of pm_pair_of cd_pair_of ct_pair_of oc_common_divisor kV_common_divisor dc_common_divisor pm_common_divisor cd_common_divisor ct_common_divisor oc_lowest_terms kV_lowest_terms dc_lowest_terms pm_lowest_terms cd_lowest_terms ct_lowest_terms oc_lowest_pair kV_lowest_pair dc_lowest_pair pm_lowest_pair cd_lowest_pair ct_lowest_pair oc_is_piece kV_is_piece dc_is_piece pm_is_piece cd_is_piece ct_is_piece oc_checked_row kV_checked_row dc_checked_row pm_checked_row cd_checked_row ct_checked_row oc_matrix_and_scale kV_matrix_and_scale dc_matrix_and_scale pm_matrix_and_scale cd_matrix_and_scale ct_matrix_and_scale oc_shown_before kV_shown_before dc_shown_before pm_shown_before cd_shown_before ct_shown_before oc_piece_text kV_piece_text dc_piece_text pm_piece_text cd_piece_text ct_piece_text oc_piece_with_text kV_piece_with_text dc_piece_with_text pm_piece_with_text cd_piece_with_text ct_piece_with_text oc_law_cup kV_law_cup dc_law_cup pm_law_cup cd_law_cup ct_law_cup oc_law_sip kV_law_sip dc_law_sip pm_law_sip cd_law_sip ct_law_sip oc_law_pick kV_law_pick dc_law_pick pm_law_pick cd_law_pick ct_law_pick oc_is_count kV_is_count dc_is_count pm_is_count cd_is_count ct_is_count oc_fraction_text kV_fraction_text dc_fraction_text pm_fraction_text cd_fraction_text ct_fraction_text oc_sign kV_sign dc_sign pm_sign cd_sign ct_sign oc_square_root kV_square_root dc_square_root pm_square_root cd_square_root ct_square_root oc_under_root kV_under_root dc_under_root pm_under_root cd_under_root ct_under_root oc_equation_of_fraction kV_equation_of_fraction dc_equation_of_fraction pm_equation_of_fraction cd_equation_of_fraction ct_equation_of_fraction oc_simplest_equation kV_simplest_equation dc_simplest_equation pm_simplest_equation cd_simplest_equation ct_simplest_equation oc_with_commas kV_with_commas dc_with_commas pm_with_commas cd_with_commas ct_with_commas oc_pair_order kV_pair_order dc_pair_order pm_pair_order cd_pair_order ct_pair_order oc_check_resistance kV_check_resistance dc_check_resistance pm_check_resistance cd_check_resistance ct_check_resistance oc_check_count kV_check_count dc_check_count pm_check_count cd_check_count ct_check_count oc_Exact_init kV_Exact_init dc_Exact_init pm_Exact_init cd_Exact_init ct_Exact_init oc_check_pattern kV_check_pattern dc_check_pattern pm_check_pattern cd_check_pattern ct_check_pattern oc_ladder_limit kV_ladder_limit dc_ladder_limit pm_ladder_limit cd_ladder_limit ct_ladder_limit oc_Ladder_init kV_Ladder_init dc_Ladder_init pm_Ladder_init cd_Ladder_init ct_Ladder_init oc_Ladder_after kV_Ladder_after dc_Ladder_after pm_Ladder_after cd_Ladder_after ct_Ladder_after oc_Ladder_call kV_Ladder_call dc_Ladder_call pm_Ladder_call cd_Ladder_call ct_Ladder_call oc_Ladder_goes kV_Ladder_goes dc_Ladder_goes pm_Ladder_goes cd_Ladder_goes ct_Ladder_goes oc_Ladder_limit kV_Ladder_limit dc_Ladder_limit pm_Ladder_limit cd_Ladder_limit ct_Ladder_limit oc_Exact_equation kV_Exact_equation dc_Exact_equation pm_Exact_equation cd_Exact_equation ct_Exact_equation oc_Exact_fraction kV_Exact_fraction dc_Exact_fraction pm_Exact_fraction cd_Exact_fraction ct_Exact_fraction oc_law_row kV_law_row dc_law_row pm_law_row cd_law_row ct_law_row oc_law_words kV_law_words dc_law_words pm_law_words cd_law_words ct_law_words oc_law_read kV_law_read dc_law_read pm_law_read cd_law_read ct_law_read oc_Exact_eq kV_Exact_eq dc_Exact_eq pm_Exact_eq cd_Exact_eq ct_Exact_eq oc_beside_fraction kV_beside_fraction dc_beside_fraction pm_beside_fraction cd_beside_fraction ct_beside_fraction oc_sign_along_line kV_sign_along_line dc_sign_along_line pm_sign_along_line cd_sign_along_line ct_sign_along_line oc_Exact_order kV_Exact_order dc_Exact_order pm_Exact_order cd_Exact_order ct_Exact_order oc_difference kV_difference dc_difference pm_difference cd_difference ct_difference oc_sign_at kV_sign_at dc_sign_at pm_sign_at cd_sign_at ct_sign_at oc_sign_far_out kV_sign_far_out dc_sign_far_out pm_sign_far_out cd_sign_far_out ct_sign_far_out oc_sign_from kV_sign_from dc_sign_from pm_sign_from cd_sign_from ct_sign_from oc_sign_towards kV_sign_towards dc_sign_towards pm_sign_towards cd_sign_towards ct_sign_towards oc_limit_beside kV_limit_beside dc_limit_beside pm_limit_beside cd_limit_beside ct_limit_beside oc_never_below kV_never_below dc_never_below pm_never_below cd_never_below ct_never_below oc_never_more kV_never_more dc_never_more pm_never_more cd_never_more ct_never_more oc_law_near kV_law_near dc_law_near pm_law_near cd_law_near ct_law_near oc_law_limits_right kV_law_limits_right dc_law_limits_right pm_law_limits_right cd_law_limits_right ct_law_limits_right oc_law_right kV_law_right dc_law_right pm_law_right cd_law_right ct_law_right oc_law kV_law dc_law pm_law cd_law ct_law : Value} {tG : Tok} {t1 : Tok} {t2 : Tok} {t3 : Tok} {aO_k0 aO_k1 : Tok} {od_aO : Option Addr} {nn_aO : Nat} {sl_aO : Array (Option Value)} {aW_k0 aW_k1 : Tok} {od_aW : Option Addr} {nn_aW : Nat} {sl_aW : Array (Option Value)} {rest_Pattern_read : List Value} {tP : Tok} {tC : Tok} {rest_Ladder_goes : List Value} {rest_Ladder_limit : List Value} {rest_Exact_equation : List Value} {rest_Exact_fraction : List Value} (hfa : mg "law" = some (.ref fa))
    (aG : PySem.W.nsIn K mainGlobals "GREATEST" = some (some (.int 1000000000000 tG)))
    (aOh : PySem.W.nsIn K mainGlobals "MOST_OHMS" = some (some (.int 12 t1)))
    (aPi : PySem.W.nsIn K mainGlobals "MOST_PIECES" = some (some (.int 4 t2)))
    (aJo : PySem.W.nsIn K mainGlobals "MOST_JOINED" = some (some (.int 8 t3)))
    (aOp : PySem.W.nsIn K mainGlobals "OPEN" = some (some (.ref aO)))
    (laOp : K.lookup aO = some ⟨.type "tuple", od_aO, .seq #[.int 1 aO_k0, .int 0 aO_k1] nn_aO, sl_aO⟩)
    (aWo : PySem.W.nsIn K mainGlobals "WORDS" = some (some (.ref aW)))
    (laWo : K.lookup aW = some ⟨.type "tuple", od_aW, .seq #[.str (Str.ofString "rail") aW_k0, .str (Str.ofString "rung") aW_k1] nn_aW, sl_aW⟩)
    (aJ : PySem.W.nsIn K mainGlobals "JoinedRow" = some (some (.ref J)))
    (pgJ : PySem.W.plainGet K J Str.empty = true)
    (hdJ : PySem.W.hasDictIn K J = true)
    (poJ : PySem.W.plainOver K J = true)
    (saJ : PySem.W.findIn K (.ref J) "__setattr__" = some (some (.builtin "object.__setattr__")))
    (mkJ : PySem.W.makesIn K J = true)
    (kcJ : PySem.W.keepIn K (.ref J) = true)
    (nJ_row : PySem.W.findIn K (.ref J) "row" = some none)
    (caJ : PySem.W.findIn K (.ref J) "__class__" = some (some (.builtin "object.__class__")))
    (cmJ : PySem.W.mroIn K J (.type "object") = some true)
    (cn : PySem.W.specialIn K (.builtin "object.__class__") "__get__" = some (some (.builtin "getset_descriptor.__get__")))
    (ct : PySem.W.takesIn K (.builtin "object.__class__") = some true)
    (aC : PySem.W.nsIn K mainGlobals "Pattern" = some (some (.ref C)))
    (pgC : PySem.W.plainGet K C Str.empty = true)
    (hdC : PySem.W.hasDictIn K C = true)
    (poC : PySem.W.plainOver K C = true)
    (saC : PySem.W.findIn K (.ref C) "__setattr__" = some (some (.builtin "object.__setattr__")))
    (mkC : PySem.W.makesIn K C = true)
    (kcC : PySem.W.keepIn K (.ref C) = true)
    (nC_row : PySem.W.findIn K (.ref C) "row" = some none)
    (nC_matrix : PySem.W.findIn K (.ref C) "matrix" = some none)
    (nC_scale : PySem.W.findIn K (.ref C) "scale" = some none)
    (nC_four : PySem.W.findIn K (.ref C) "four" = some none)
    (kt_J : PySem.W.kitOne K (.type "tuple") (.ref J) = some false)
    (sfC : PySem.W.selfFirst K C = true)
    (rdC : PySem.W.readsIn K C (.type "type") = true)
    (gaC : PySem.W.specialIn K (.ref C) "__getattribute__" = some (some (.builtin "type.__getattribute__")))
    (a_JoinedRow_init : PySem.W.findIn K (.ref J) "__init__" = some (some (.ref f_JoinedRow_init)))
    (i_JoinedRow_init : PySem.W.isFn K (.ref f_JoinedRow_init) = true)
    (l_JoinedRow_init : K.lookup f_JoinedRow_init = some ⟨oc_JoinedRow_init, od_JoinedRow_init, .func (PySem.W.fnOf "__init__" "JoinedRow.__init__" (defArgs s_JoinedRow_init) (defBody s_JoinedRow_init) (defScope s_JoinedRow_init) .none kV_JoinedRow_init dc_JoinedRow_init pm_JoinedRow_init an_JoinedRow_init cd_JoinedRow_init ct_JoinedRow_init), sl_JoinedRow_init⟩)
    (c_JoinedRow_init : PySem.W.codeIn K cd_JoinedRow_init "JoinedRow.__init__" = true)
    (k_JoinedRow_init : PySem.W.keepIn K (.ref f_JoinedRow_init) = true)
    (a_Pattern_init : PySem.W.findIn K (.ref C) "__init__" = some (some (.ref f_Pattern_init)))
    (i_Pattern_init : PySem.W.isFn K (.ref f_Pattern_init) = true)
    (l_Pattern_init : K.lookup f_Pattern_init = some ⟨oc_Pattern_init, od_Pattern_init, .func (PySem.W.fnOf "__init__" "Pattern.__init__" (defArgs s_Pattern_init) (defBody s_Pattern_init) (defScope s_Pattern_init) .none kV_Pattern_init dc_Pattern_init pm_Pattern_init an_Pattern_init cd_Pattern_init ct_Pattern_init), sl_Pattern_init⟩)
    (c_Pattern_init : PySem.W.codeIn K cd_Pattern_init "Pattern.__init__" = true)
    (k_Pattern_init : PySem.W.keepIn K (.ref f_Pattern_init) = true)
    (a_Pattern_call : PySem.W.findIn K (.ref C) "__call__" = some (some (.ref f_Pattern_call)))
    (i_Pattern_call : PySem.W.isFn K (.ref f_Pattern_call) = true)
    (l_Pattern_call : K.lookup f_Pattern_call = some ⟨oc_Pattern_call, od_Pattern_call, .func (PySem.W.fnOf "__call__" "Pattern.__call__" (defArgs s_Pattern_call) (defBody s_Pattern_call) (defScope s_Pattern_call) .none kV_Pattern_call dc_Pattern_call pm_Pattern_call an_Pattern_call cd_Pattern_call ct_Pattern_call), sl_Pattern_call⟩)
    (c_Pattern_call : PySem.W.codeIn K cd_Pattern_call "Pattern.__call__" = true)
    (k_Pattern_call : PySem.W.keepIn K (.ref f_Pattern_call) = true)
    (fi_call : PySem.W.fnIn K f_Pattern_call = true)
    (a_Pattern_add : PySem.W.findIn K (.ref C) "__add__" = some (some (.ref f_Pattern_add)))
    (i_Pattern_add : PySem.W.isFn K (.ref f_Pattern_add) = true)
    (l_Pattern_add : K.lookup f_Pattern_add = some ⟨oc_Pattern_add, od_Pattern_add, .func (PySem.W.fnOf "__add__" "Pattern.__add__" (defArgs s_Pattern_add) (defBody s_Pattern_add) (defScope s_Pattern_add) .none kV_Pattern_add dc_Pattern_add pm_Pattern_add an_Pattern_add cd_Pattern_add ct_Pattern_add), sl_Pattern_add⟩)
    (c_Pattern_add : PySem.W.codeIn K cd_Pattern_add "Pattern.__add__" = true)
    (k_Pattern_add : PySem.W.keepIn K (.ref f_Pattern_add) = true)
    (a_Pattern_eq : PySem.W.findIn K (.ref C) "__eq__" = some (some (.ref f_Pattern_eq)))
    (i_Pattern_eq : PySem.W.isFn K (.ref f_Pattern_eq) = true)
    (l_Pattern_eq : K.lookup f_Pattern_eq = some ⟨oc_Pattern_eq, od_Pattern_eq, .func (PySem.W.fnOf "__eq__" "Pattern.__eq__" (defArgs s_Pattern_eq) (defBody s_Pattern_eq) (defScope s_Pattern_eq) .none kV_Pattern_eq dc_Pattern_eq pm_Pattern_eq an_Pattern_eq cd_Pattern_eq ct_Pattern_eq), sl_Pattern_eq⟩)
    (c_Pattern_eq : PySem.W.codeIn K cd_Pattern_eq "Pattern.__eq__" = true)
    (k_Pattern_eq : PySem.W.keepIn K (.ref f_Pattern_eq) = true)
    (caC : PySem.W.findIn K (.ref C) "__class__" = some (some (.builtin "object.__class__")))
    (cmC : PySem.W.mroIn K C (.type "object") = some true)
    (sa_Pattern_read : PySem.W.findCls K (.ref C) (.type "type") "read" = some (.get (.builtin "staticmethod.__get__") (.ref pr_Pattern_read) .none (.ref C)))
    (sc_Pattern_read : PySem.W.recIn K pr_Pattern_read "staticmethod" = some (.ref f_Pattern_read :: rest_Pattern_read))
    (l_Pattern_read : K.lookup f_Pattern_read = some ⟨oc_Pattern_read, od_Pattern_read, .func (PySem.W.fnOf "read" "Pattern.read" (defArgs s_Pattern_read) (defBody s_Pattern_read) (defScope s_Pattern_read) .none kV_Pattern_read dc_Pattern_read pm_Pattern_read an_Pattern_read cd_Pattern_read ct_Pattern_read), sl_Pattern_read⟩)
    (c_Pattern_read : PySem.W.codeIn K cd_Pattern_read "Pattern.read" = true)
    (k_Pattern_read : PySem.W.keepIn K (.ref f_Pattern_read) = true)
    (z_len : PySem.W.nsIn K mainGlobals "len" = some none)
    (z_abs : PySem.W.nsIn K mainGlobals "abs" = some none)
    (z_int : PySem.W.nsIn K mainGlobals "int" = some none)
    (z_bool : PySem.W.nsIn K mainGlobals "bool" = some none)
    (z_tuple : PySem.W.nsIn K mainGlobals "tuple" = some none)
    (z_isinstance : PySem.W.nsIn K mainGlobals "isinstance" = some none)
    (z_divmod : PySem.W.nsIn K mainGlobals "divmod" = some none)
    (z_max : PySem.W.nsIn K mainGlobals "max" = some none)
    (z_min : PySem.W.nsIn K mainGlobals "min" = some none)
    (z_range : PySem.W.nsIn K mainGlobals "range" = some none)
    (z_all : PySem.W.nsIn K mainGlobals "all" = some none)
    (z_repr : PySem.W.nsIn K mainGlobals "repr" = some none)
    (z_str : PySem.W.nsIn K mainGlobals "str" = some none)
    (z_enumerate : PySem.W.nsIn K mainGlobals "enumerate" = some none)
    (a_is_integer : PySem.W.nsIn K mainGlobals "is_integer" = some (some (.ref f_is_integer)))
    (l_is_integer : K.lookup f_is_integer = some ⟨oc_is_integer, od_is_integer, .func (PySem.W.fnOf "is_integer" "is_integer" (defArgs s_is_integer) (defBody s_is_integer) (defScope s_is_integer) .none kV_is_integer dc_is_integer pm_is_integer an_is_integer cd_is_integer ct_is_integer), sl_is_integer⟩)
    (c_is_integer : PySem.W.codeIn K cd_is_integer "is_integer" = true)
    (k_is_integer : PySem.W.keepIn K (.ref f_is_integer) = true)
    (a_is_integer_within : PySem.W.nsIn K mainGlobals "is_integer_within" = some (some (.ref f_is_integer_within)))
    (l_is_integer_within : K.lookup f_is_integer_within = some ⟨oc_is_integer_within, od_is_integer_within, .func (PySem.W.fnOf "is_integer_within" "is_integer_within" (defArgs s_is_integer_within) (defBody s_is_integer_within) (defScope s_is_integer_within) .none kV_is_integer_within dc_is_integer_within pm_is_integer_within an_is_integer_within cd_is_integer_within ct_is_integer_within), sl_is_integer_within⟩)
    (c_is_integer_within : PySem.W.codeIn K cd_is_integer_within "is_integer_within" = true)
    (k_is_integer_within : PySem.W.keepIn K (.ref f_is_integer_within) = true)
    (a_is_pair_of_integers : PySem.W.nsIn K mainGlobals "is_pair_of_integers" = some (some (.ref f_is_pair_of_integers)))
    (l_is_pair_of_integers : K.lookup f_is_pair_of_integers = some ⟨oc_is_pair_of_integers, od_is_pair_of_integers, .func (PySem.W.fnOf "is_pair_of_integers" "is_pair_of_integers" (defArgs s_is_pair_of_integers) (defBody s_is_pair_of_integers) (defScope s_is_pair_of_integers) .none kV_is_pair_of_integers dc_is_pair_of_integers pm_is_pair_of_integers an_is_pair_of_integers cd_is_pair_of_integers ct_is_pair_of_integers), sl_is_pair_of_integers⟩)
    (c_is_pair_of_integers : PySem.W.codeIn K cd_is_pair_of_integers "is_pair_of_integers" = true)
    (k_is_pair_of_integers : PySem.W.keepIn K (.ref f_is_pair_of_integers) = true)
    (a_is_resistance : PySem.W.nsIn K mainGlobals "is_resistance" = some (some (.ref f_is_resistance)))
    (l_is_resistance : K.lookup f_is_resistance = some ⟨oc_is_resistance, od_is_resistance, .func (PySem.W.fnOf "is_resistance" "is_resistance" (defArgs s_is_resistance) (defBody s_is_resistance) (defScope s_is_resistance) .none kV_is_resistance dc_is_resistance pm_is_resistance an_is_resistance cd_is_resistance ct_is_resistance), sl_is_resistance⟩)
    (c_is_resistance : PySem.W.codeIn K cd_is_resistance "is_resistance" = true)
    (k_is_resistance : PySem.W.keepIn K (.ref f_is_resistance) = true)
    (a_pair_of : PySem.W.nsIn K mainGlobals "pair_of" = some (some (.ref f_pair_of)))
    (l_pair_of : K.lookup f_pair_of = some ⟨oc_pair_of, od_pair_of, .func (PySem.W.fnOf "pair_of" "pair_of" (defArgs s_pair_of) (defBody s_pair_of) (defScope s_pair_of) .none kV_pair_of dc_pair_of pm_pair_of an_pair_of cd_pair_of ct_pair_of), sl_pair_of⟩)
    (c_pair_of : PySem.W.codeIn K cd_pair_of "pair_of" = true)
    (k_pair_of : PySem.W.keepIn K (.ref f_pair_of) = true)
    (a_common_divisor : PySem.W.nsIn K mainGlobals "common_divisor" = some (some (.ref f_common_divisor)))
    (l_common_divisor : K.lookup f_common_divisor = some ⟨oc_common_divisor, od_common_divisor, .func (PySem.W.fnOf "common_divisor" "common_divisor" (defArgs s_common_divisor) (defBody s_common_divisor) (defScope s_common_divisor) .none kV_common_divisor dc_common_divisor pm_common_divisor an_common_divisor cd_common_divisor ct_common_divisor), sl_common_divisor⟩)
    (c_common_divisor : PySem.W.codeIn K cd_common_divisor "common_divisor" = true)
    (k_common_divisor : PySem.W.keepIn K (.ref f_common_divisor) = true)
    (a_lowest_terms : PySem.W.nsIn K mainGlobals "lowest_terms" = some (some (.ref f_lowest_terms)))
    (l_lowest_terms : K.lookup f_lowest_terms = some ⟨oc_lowest_terms, od_lowest_terms, .func (PySem.W.fnOf "lowest_terms" "lowest_terms" (defArgs s_lowest_terms) (defBody s_lowest_terms) (defScope s_lowest_terms) .none kV_lowest_terms dc_lowest_terms pm_lowest_terms an_lowest_terms cd_lowest_terms ct_lowest_terms), sl_lowest_terms⟩)
    (c_lowest_terms : PySem.W.codeIn K cd_lowest_terms "lowest_terms" = true)
    (k_lowest_terms : PySem.W.keepIn K (.ref f_lowest_terms) = true)
    (a_lowest_pair : PySem.W.nsIn K mainGlobals "lowest_pair" = some (some (.ref f_lowest_pair)))
    (l_lowest_pair : K.lookup f_lowest_pair = some ⟨oc_lowest_pair, od_lowest_pair, .func (PySem.W.fnOf "lowest_pair" "lowest_pair" (defArgs s_lowest_pair) (defBody s_lowest_pair) (defScope s_lowest_pair) .none kV_lowest_pair dc_lowest_pair pm_lowest_pair an_lowest_pair cd_lowest_pair ct_lowest_pair), sl_lowest_pair⟩)
    (c_lowest_pair : PySem.W.codeIn K cd_lowest_pair "lowest_pair" = true)
    (k_lowest_pair : PySem.W.keepIn K (.ref f_lowest_pair) = true)
    (a_is_piece : PySem.W.nsIn K mainGlobals "is_piece" = some (some (.ref f_is_piece)))
    (l_is_piece : K.lookup f_is_piece = some ⟨oc_is_piece, od_is_piece, .func (PySem.W.fnOf "is_piece" "is_piece" (defArgs s_is_piece) (defBody s_is_piece) (defScope s_is_piece) .none kV_is_piece dc_is_piece pm_is_piece an_is_piece cd_is_piece ct_is_piece), sl_is_piece⟩)
    (c_is_piece : PySem.W.codeIn K cd_is_piece "is_piece" = true)
    (k_is_piece : PySem.W.keepIn K (.ref f_is_piece) = true)
    (a_checked_row : PySem.W.nsIn K mainGlobals "checked_row" = some (some (.ref f_checked_row)))
    (l_checked_row : K.lookup f_checked_row = some ⟨oc_checked_row, od_checked_row, .func (PySem.W.fnOf "checked_row" "checked_row" (defArgs s_checked_row) (defBody s_checked_row) (defScope s_checked_row) .none kV_checked_row dc_checked_row pm_checked_row an_checked_row cd_checked_row ct_checked_row), sl_checked_row⟩)
    (c_checked_row : PySem.W.codeIn K cd_checked_row "checked_row" = true)
    (k_checked_row : PySem.W.keepIn K (.ref f_checked_row) = true)
    (a_matrix_and_scale : PySem.W.nsIn K mainGlobals "matrix_and_scale" = some (some (.ref f_matrix_and_scale)))
    (l_matrix_and_scale : K.lookup f_matrix_and_scale = some ⟨oc_matrix_and_scale, od_matrix_and_scale, .func (PySem.W.fnOf "matrix_and_scale" "matrix_and_scale" (defArgs s_matrix_and_scale) (defBody s_matrix_and_scale) (defScope s_matrix_and_scale) .none kV_matrix_and_scale dc_matrix_and_scale pm_matrix_and_scale an_matrix_and_scale cd_matrix_and_scale ct_matrix_and_scale), sl_matrix_and_scale⟩)
    (c_matrix_and_scale : PySem.W.codeIn K cd_matrix_and_scale "matrix_and_scale" = true)
    (k_matrix_and_scale : PySem.W.keepIn K (.ref f_matrix_and_scale) = true)
    (a_shown_before : PySem.W.nsIn K mainGlobals "shown_before" = some (some (.ref f_shown_before)))
    (l_shown_before : K.lookup f_shown_before = some ⟨oc_shown_before, od_shown_before, .func (PySem.W.fnOf "shown_before" "shown_before" (defArgs s_shown_before) (defBody s_shown_before) (defScope s_shown_before) .none kV_shown_before dc_shown_before pm_shown_before an_shown_before cd_shown_before ct_shown_before), sl_shown_before⟩)
    (c_shown_before : PySem.W.codeIn K cd_shown_before "shown_before" = true)
    (k_shown_before : PySem.W.keepIn K (.ref f_shown_before) = true)
    (a_piece_text : PySem.W.nsIn K mainGlobals "piece_text" = some (some (.ref f_piece_text)))
    (l_piece_text : K.lookup f_piece_text = some ⟨oc_piece_text, od_piece_text, .func (PySem.W.fnOf "piece_text" "piece_text" (defArgs s_piece_text) (defBody s_piece_text) (defScope s_piece_text) .none kV_piece_text dc_piece_text pm_piece_text an_piece_text cd_piece_text ct_piece_text), sl_piece_text⟩)
    (c_piece_text : PySem.W.codeIn K cd_piece_text "piece_text" = true)
    (k_piece_text : PySem.W.keepIn K (.ref f_piece_text) = true)
    (a_piece_with_text : PySem.W.nsIn K mainGlobals "piece_with_text" = some (some (.ref f_piece_with_text)))
    (l_piece_with_text : K.lookup f_piece_with_text = some ⟨oc_piece_with_text, od_piece_with_text, .func (PySem.W.fnOf "piece_with_text" "piece_with_text" (defArgs s_piece_with_text) (defBody s_piece_with_text) (defScope s_piece_with_text) .none kV_piece_with_text dc_piece_with_text pm_piece_with_text an_piece_with_text cd_piece_with_text ct_piece_with_text), sl_piece_with_text⟩)
    (c_piece_with_text : PySem.W.codeIn K cd_piece_with_text "piece_with_text" = true)
    (k_piece_with_text : PySem.W.keepIn K (.ref f_piece_with_text) = true)
    (a_law_cup : PySem.W.nsIn K mainGlobals "_law_cup" = some (some (.ref f_law_cup)))
    (l_law_cup : K.lookup f_law_cup = some ⟨oc_law_cup, od_law_cup, .func (PySem.W.fnOf "_law_cup" "_law_cup" (defArgs s_law_cup) (defBody s_law_cup) (defScope s_law_cup) .none kV_law_cup dc_law_cup pm_law_cup an_law_cup cd_law_cup ct_law_cup), sl_law_cup⟩)
    (c_law_cup : PySem.W.codeIn K cd_law_cup "_law_cup" = true)
    (k_law_cup : PySem.W.keepIn K (.ref f_law_cup) = true)
    (a_law_sip : PySem.W.nsIn K mainGlobals "_law_sip" = some (some (.ref f_law_sip)))
    (l_law_sip : K.lookup f_law_sip = some ⟨oc_law_sip, od_law_sip, .func (PySem.W.fnOf "_law_sip" "_law_sip" (defArgs s_law_sip) (defBody s_law_sip) (defScope s_law_sip) .none kV_law_sip dc_law_sip pm_law_sip an_law_sip cd_law_sip ct_law_sip), sl_law_sip⟩)
    (c_law_sip : PySem.W.codeIn K cd_law_sip "_law_sip" = true)
    (k_law_sip : PySem.W.keepIn K (.ref f_law_sip) = true)
    (a_law_pick : PySem.W.nsIn K mainGlobals "_law_pick" = some (some (.ref f_law_pick)))
    (l_law_pick : K.lookup f_law_pick = some ⟨oc_law_pick, od_law_pick, .func (PySem.W.fnOf "_law_pick" "_law_pick" (defArgs s_law_pick) (defBody s_law_pick) (defScope s_law_pick) .none kV_law_pick dc_law_pick pm_law_pick an_law_pick cd_law_pick ct_law_pick), sl_law_pick⟩)
    (c_law_pick : PySem.W.codeIn K cd_law_pick "_law_pick" = true)
    (k_law_pick : PySem.W.keepIn K (.ref f_law_pick) = true)
    (aGP : PySem.W.nsIn K mainGlobals "GREATEST_PART" = some (some (.int 10000000000000000000000000000000000000000 tP)))
    (aMS : PySem.W.nsIn K mainGlobals "MOST_SECTIONS" = some (some (.int 100 tC)))
    (aCe : PySem.W.nsIn K mainGlobals "Exact" = some (some (.ref Ce)))
    (pgCe : PySem.W.plainGet K Ce Str.empty = true)
    (hdCe : PySem.W.hasDictIn K Ce = true)
    (poCe : PySem.W.plainOver K Ce = true)
    (saCe : PySem.W.findIn K (.ref Ce) "__setattr__" = some (some (.builtin "object.__setattr__")))
    (mkCe : PySem.W.makesIn K Ce = true)
    (kcCe : PySem.W.keepIn K (.ref Ce) = true)
    (nCe_parts : PySem.W.findIn K (.ref Ce) "parts" = some none)
    (caCe : PySem.W.findIn K (.ref Ce) "__class__" = some (some (.builtin "object.__class__")))
    (cmCe : PySem.W.mroIn K Ce (.type "object") = some true)
    (aCl : PySem.W.nsIn K mainGlobals "Ladder" = some (some (.ref Cl)))
    (pgCl : PySem.W.plainGet K Cl Str.empty = true)
    (hdCl : PySem.W.hasDictIn K Cl = true)
    (poCl : PySem.W.plainOver K Cl = true)
    (saCl : PySem.W.findIn K (.ref Cl) "__setattr__" = some (some (.builtin "object.__setattr__")))
    (mkCl : PySem.W.makesIn K Cl = true)
    (kcCl : PySem.W.keepIn K (.ref Cl) = true)
    (nCl_section : PySem.W.findIn K (.ref Cl) "section" = some none)
    (nCl_behind : PySem.W.findIn K (.ref Cl) "behind" = some none)
    (nCl_far : PySem.W.findIn K (.ref Cl) "far" = some none)
    (a_is_count : PySem.W.nsIn K mainGlobals "is_count" = some (some (.ref f_is_count)))
    (l_is_count : K.lookup f_is_count = some ⟨oc_is_count, od_is_count, .func (PySem.W.fnOf "is_count" "is_count" (defArgs s_is_count) (defBody s_is_count) (defScope s_is_count) .none kV_is_count dc_is_count pm_is_count an_is_count cd_is_count ct_is_count), sl_is_count⟩)
    (c_is_count : PySem.W.codeIn K cd_is_count "is_count" = true)
    (k_is_count : PySem.W.keepIn K (.ref f_is_count) = true)
    (a_fraction_text : PySem.W.nsIn K mainGlobals "fraction_text" = some (some (.ref f_fraction_text)))
    (l_fraction_text : K.lookup f_fraction_text = some ⟨oc_fraction_text, od_fraction_text, .func (PySem.W.fnOf "fraction_text" "fraction_text" (defArgs s_fraction_text) (defBody s_fraction_text) (defScope s_fraction_text) .none kV_fraction_text dc_fraction_text pm_fraction_text an_fraction_text cd_fraction_text ct_fraction_text), sl_fraction_text⟩)
    (c_fraction_text : PySem.W.codeIn K cd_fraction_text "fraction_text" = true)
    (k_fraction_text : PySem.W.keepIn K (.ref f_fraction_text) = true)
    (a_sign : PySem.W.nsIn K mainGlobals "sign" = some (some (.ref f_sign)))
    (l_sign : K.lookup f_sign = some ⟨oc_sign, od_sign, .func (PySem.W.fnOf "sign" "sign" (defArgs s_sign) (defBody s_sign) (defScope s_sign) .none kV_sign dc_sign pm_sign an_sign cd_sign ct_sign), sl_sign⟩)
    (c_sign : PySem.W.codeIn K cd_sign "sign" = true)
    (k_sign : PySem.W.keepIn K (.ref f_sign) = true)
    (a_square_root : PySem.W.nsIn K mainGlobals "square_root" = some (some (.ref f_square_root)))
    (l_square_root : K.lookup f_square_root = some ⟨oc_square_root, od_square_root, .func (PySem.W.fnOf "square_root" "square_root" (defArgs s_square_root) (defBody s_square_root) (defScope s_square_root) .none kV_square_root dc_square_root pm_square_root an_square_root cd_square_root ct_square_root), sl_square_root⟩)
    (c_square_root : PySem.W.codeIn K cd_square_root "square_root" = true)
    (k_square_root : PySem.W.keepIn K (.ref f_square_root) = true)
    (a_under_root : PySem.W.nsIn K mainGlobals "under_root" = some (some (.ref f_under_root)))
    (l_under_root : K.lookup f_under_root = some ⟨oc_under_root, od_under_root, .func (PySem.W.fnOf "under_root" "under_root" (defArgs s_under_root) (defBody s_under_root) (defScope s_under_root) .none kV_under_root dc_under_root pm_under_root an_under_root cd_under_root ct_under_root), sl_under_root⟩)
    (c_under_root : PySem.W.codeIn K cd_under_root "under_root" = true)
    (k_under_root : PySem.W.keepIn K (.ref f_under_root) = true)
    (a_equation_of_fraction : PySem.W.nsIn K mainGlobals "equation_of_fraction" = some (some (.ref f_equation_of_fraction)))
    (l_equation_of_fraction : K.lookup f_equation_of_fraction = some ⟨oc_equation_of_fraction, od_equation_of_fraction, .func (PySem.W.fnOf "equation_of_fraction" "equation_of_fraction" (defArgs s_equation_of_fraction) (defBody s_equation_of_fraction) (defScope s_equation_of_fraction) .none kV_equation_of_fraction dc_equation_of_fraction pm_equation_of_fraction an_equation_of_fraction cd_equation_of_fraction ct_equation_of_fraction), sl_equation_of_fraction⟩)
    (c_equation_of_fraction : PySem.W.codeIn K cd_equation_of_fraction "equation_of_fraction" = true)
    (k_equation_of_fraction : PySem.W.keepIn K (.ref f_equation_of_fraction) = true)
    (a_simplest_equation : PySem.W.nsIn K mainGlobals "simplest_equation" = some (some (.ref f_simplest_equation)))
    (l_simplest_equation : K.lookup f_simplest_equation = some ⟨oc_simplest_equation, od_simplest_equation, .func (PySem.W.fnOf "simplest_equation" "simplest_equation" (defArgs s_simplest_equation) (defBody s_simplest_equation) (defScope s_simplest_equation) .none kV_simplest_equation dc_simplest_equation pm_simplest_equation an_simplest_equation cd_simplest_equation ct_simplest_equation), sl_simplest_equation⟩)
    (c_simplest_equation : PySem.W.codeIn K cd_simplest_equation "simplest_equation" = true)
    (k_simplest_equation : PySem.W.keepIn K (.ref f_simplest_equation) = true)
    (a_with_commas : PySem.W.nsIn K mainGlobals "with_commas" = some (some (.ref f_with_commas)))
    (l_with_commas : K.lookup f_with_commas = some ⟨oc_with_commas, od_with_commas, .func (PySem.W.fnOf "with_commas" "with_commas" (defArgs s_with_commas) (defBody s_with_commas) (defScope s_with_commas) .none kV_with_commas dc_with_commas pm_with_commas an_with_commas cd_with_commas ct_with_commas), sl_with_commas⟩)
    (c_with_commas : PySem.W.codeIn K cd_with_commas "with_commas" = true)
    (k_with_commas : PySem.W.keepIn K (.ref f_with_commas) = true)
    (a_pair_order : PySem.W.nsIn K mainGlobals "pair_order" = some (some (.ref f_pair_order)))
    (l_pair_order : K.lookup f_pair_order = some ⟨oc_pair_order, od_pair_order, .func (PySem.W.fnOf "pair_order" "pair_order" (defArgs s_pair_order) (defBody s_pair_order) (defScope s_pair_order) .none kV_pair_order dc_pair_order pm_pair_order an_pair_order cd_pair_order ct_pair_order), sl_pair_order⟩)
    (c_pair_order : PySem.W.codeIn K cd_pair_order "pair_order" = true)
    (k_pair_order : PySem.W.keepIn K (.ref f_pair_order) = true)
    (a_check_resistance : PySem.W.nsIn K mainGlobals "check_resistance" = some (some (.ref f_check_resistance)))
    (l_check_resistance : K.lookup f_check_resistance = some ⟨oc_check_resistance, od_check_resistance, .func (PySem.W.fnOf "check_resistance" "check_resistance" (defArgs s_check_resistance) (defBody s_check_resistance) (defScope s_check_resistance) .none kV_check_resistance dc_check_resistance pm_check_resistance an_check_resistance cd_check_resistance ct_check_resistance), sl_check_resistance⟩)
    (c_check_resistance : PySem.W.codeIn K cd_check_resistance "check_resistance" = true)
    (k_check_resistance : PySem.W.keepIn K (.ref f_check_resistance) = true)
    (a_check_count : PySem.W.nsIn K mainGlobals "check_count" = some (some (.ref f_check_count)))
    (l_check_count : K.lookup f_check_count = some ⟨oc_check_count, od_check_count, .func (PySem.W.fnOf "check_count" "check_count" (defArgs s_check_count) (defBody s_check_count) (defScope s_check_count) .none kV_check_count dc_check_count pm_check_count an_check_count cd_check_count ct_check_count), sl_check_count⟩)
    (c_check_count : PySem.W.codeIn K cd_check_count "check_count" = true)
    (k_check_count : PySem.W.keepIn K (.ref f_check_count) = true)
    (a_Exact_init : PySem.W.findIn K (.ref Ce) "__init__" = some (some (.ref f_Exact_init)))
    (i_Exact_init : PySem.W.isFn K (.ref f_Exact_init) = true)
    (l_Exact_init : K.lookup f_Exact_init = some ⟨oc_Exact_init, od_Exact_init, .func (PySem.W.fnOf "__init__" "Exact.__init__" (defArgs s_Exact_init) (defBody s_Exact_init) (defScope s_Exact_init) .none kV_Exact_init dc_Exact_init pm_Exact_init an_Exact_init cd_Exact_init ct_Exact_init), sl_Exact_init⟩)
    (c_Exact_init : PySem.W.codeIn K cd_Exact_init "Exact.__init__" = true)
    (k_Exact_init : PySem.W.keepIn K (.ref f_Exact_init) = true)
    (a_check_pattern : PySem.W.nsIn K mainGlobals "check_pattern" = some (some (.ref f_check_pattern)))
    (l_check_pattern : K.lookup f_check_pattern = some ⟨oc_check_pattern, od_check_pattern, .func (PySem.W.fnOf "check_pattern" "check_pattern" (defArgs s_check_pattern) (defBody s_check_pattern) (defScope s_check_pattern) .none kV_check_pattern dc_check_pattern pm_check_pattern an_check_pattern cd_check_pattern ct_check_pattern), sl_check_pattern⟩)
    (c_check_pattern : PySem.W.codeIn K cd_check_pattern "check_pattern" = true)
    (k_check_pattern : PySem.W.keepIn K (.ref f_check_pattern) = true)
    (a_ladder_limit : PySem.W.nsIn K mainGlobals "ladder_limit" = some (some (.ref f_ladder_limit)))
    (l_ladder_limit : K.lookup f_ladder_limit = some ⟨oc_ladder_limit, od_ladder_limit, .func (PySem.W.fnOf "ladder_limit" "ladder_limit" (defArgs s_ladder_limit) (defBody s_ladder_limit) (defScope s_ladder_limit) .none kV_ladder_limit dc_ladder_limit pm_ladder_limit an_ladder_limit cd_ladder_limit ct_ladder_limit), sl_ladder_limit⟩)
    (c_ladder_limit : PySem.W.codeIn K cd_ladder_limit "ladder_limit" = true)
    (k_ladder_limit : PySem.W.keepIn K (.ref f_ladder_limit) = true)
    (a_Ladder_init : PySem.W.findIn K (.ref Cl) "__init__" = some (some (.ref f_Ladder_init)))
    (i_Ladder_init : PySem.W.isFn K (.ref f_Ladder_init) = true)
    (l_Ladder_init : K.lookup f_Ladder_init = some ⟨oc_Ladder_init, od_Ladder_init, .func (PySem.W.fnOf "__init__" "Ladder.__init__" (defArgs s_Ladder_init) (defBody s_Ladder_init) (defScope s_Ladder_init) .none kV_Ladder_init dc_Ladder_init pm_Ladder_init an_Ladder_init cd_Ladder_init ct_Ladder_init), sl_Ladder_init⟩)
    (c_Ladder_init : PySem.W.codeIn K cd_Ladder_init "Ladder.__init__" = true)
    (k_Ladder_init : PySem.W.keepIn K (.ref f_Ladder_init) = true)
    (a_Ladder_after : PySem.W.findIn K (.ref Cl) "after" = some (some (.ref f_Ladder_after)))
    (i_Ladder_after : PySem.W.isFn K (.ref f_Ladder_after) = true)
    (l_Ladder_after : K.lookup f_Ladder_after = some ⟨oc_Ladder_after, od_Ladder_after, .func (PySem.W.fnOf "after" "Ladder.after" (defArgs s_Ladder_after) (defBody s_Ladder_after) (defScope s_Ladder_after) .none kV_Ladder_after dc_Ladder_after pm_Ladder_after an_Ladder_after cd_Ladder_after ct_Ladder_after), sl_Ladder_after⟩)
    (c_Ladder_after : PySem.W.codeIn K cd_Ladder_after "Ladder.after" = true)
    (k_Ladder_after : PySem.W.keepIn K (.ref f_Ladder_after) = true)
    (a_Ladder_call : PySem.W.findIn K (.ref Cl) "__call__" = some (some (.ref f_Ladder_call)))
    (i_Ladder_call : PySem.W.isFn K (.ref f_Ladder_call) = true)
    (l_Ladder_call : K.lookup f_Ladder_call = some ⟨oc_Ladder_call, od_Ladder_call, .func (PySem.W.fnOf "__call__" "Ladder.__call__" (defArgs s_Ladder_call) (defBody s_Ladder_call) (defScope s_Ladder_call) .none kV_Ladder_call dc_Ladder_call pm_Ladder_call an_Ladder_call cd_Ladder_call ct_Ladder_call), sl_Ladder_call⟩)
    (c_Ladder_call : PySem.W.codeIn K cd_Ladder_call "Ladder.__call__" = true)
    (k_Ladder_call : PySem.W.keepIn K (.ref f_Ladder_call) = true)
    (fi_lcall : PySem.W.fnIn K f_Ladder_call = true)
    (pa_Ladder_goes : PySem.W.findIn K (.ref Cl) "goes" = some (some (.ref pr_Ladder_goes)))
    (pg_Ladder_goes : PySem.W.specialIn K (.ref pr_Ladder_goes) "__get__" = some (some (.builtin "property.__get__")))
    (pt_Ladder_goes : PySem.W.takesIn K (.ref pr_Ladder_goes) = some true)
    (pc_Ladder_goes : PySem.W.recIn K pr_Ladder_goes "property" = some (.ref f_Ladder_goes :: rest_Ladder_goes))
    (l_Ladder_goes : K.lookup f_Ladder_goes = some ⟨oc_Ladder_goes, od_Ladder_goes, .func (PySem.W.fnOf "goes" "Ladder.goes" (defArgs s_Ladder_goes) (defBody s_Ladder_goes) (defScope s_Ladder_goes) .none kV_Ladder_goes dc_Ladder_goes pm_Ladder_goes an_Ladder_goes cd_Ladder_goes ct_Ladder_goes), sl_Ladder_goes⟩)
    (c_Ladder_goes : PySem.W.codeIn K cd_Ladder_goes "Ladder.goes" = true)
    (k_Ladder_goes : PySem.W.keepIn K (.ref f_Ladder_goes) = true)
    (pa_Ladder_limit : PySem.W.findIn K (.ref Cl) "limit" = some (some (.ref pr_Ladder_limit)))
    (pg_Ladder_limit : PySem.W.specialIn K (.ref pr_Ladder_limit) "__get__" = some (some (.builtin "property.__get__")))
    (pt_Ladder_limit : PySem.W.takesIn K (.ref pr_Ladder_limit) = some true)
    (pc_Ladder_limit : PySem.W.recIn K pr_Ladder_limit "property" = some (.ref f_Ladder_limit :: rest_Ladder_limit))
    (l_Ladder_limit : K.lookup f_Ladder_limit = some ⟨oc_Ladder_limit, od_Ladder_limit, .func (PySem.W.fnOf "limit" "Ladder.limit" (defArgs s_Ladder_limit) (defBody s_Ladder_limit) (defScope s_Ladder_limit) .none kV_Ladder_limit dc_Ladder_limit pm_Ladder_limit an_Ladder_limit cd_Ladder_limit ct_Ladder_limit), sl_Ladder_limit⟩)
    (c_Ladder_limit : PySem.W.codeIn K cd_Ladder_limit "Ladder.limit" = true)
    (k_Ladder_limit : PySem.W.keepIn K (.ref f_Ladder_limit) = true)
    (pa_Exact_equation : PySem.W.findIn K (.ref Ce) "equation" = some (some (.ref pr_Exact_equation)))
    (pg_Exact_equation : PySem.W.specialIn K (.ref pr_Exact_equation) "__get__" = some (some (.builtin "property.__get__")))
    (pt_Exact_equation : PySem.W.takesIn K (.ref pr_Exact_equation) = some true)
    (pc_Exact_equation : PySem.W.recIn K pr_Exact_equation "property" = some (.ref f_Exact_equation :: rest_Exact_equation))
    (l_Exact_equation : K.lookup f_Exact_equation = some ⟨oc_Exact_equation, od_Exact_equation, .func (PySem.W.fnOf "equation" "Exact.equation" (defArgs s_Exact_equation) (defBody s_Exact_equation) (defScope s_Exact_equation) .none kV_Exact_equation dc_Exact_equation pm_Exact_equation an_Exact_equation cd_Exact_equation ct_Exact_equation), sl_Exact_equation⟩)
    (c_Exact_equation : PySem.W.codeIn K cd_Exact_equation "Exact.equation" = true)
    (k_Exact_equation : PySem.W.keepIn K (.ref f_Exact_equation) = true)
    (pa_Exact_fraction : PySem.W.findIn K (.ref Ce) "fraction" = some (some (.ref pr_Exact_fraction)))
    (pg_Exact_fraction : PySem.W.specialIn K (.ref pr_Exact_fraction) "__get__" = some (some (.builtin "property.__get__")))
    (pt_Exact_fraction : PySem.W.takesIn K (.ref pr_Exact_fraction) = some true)
    (pc_Exact_fraction : PySem.W.recIn K pr_Exact_fraction "property" = some (.ref f_Exact_fraction :: rest_Exact_fraction))
    (l_Exact_fraction : K.lookup f_Exact_fraction = some ⟨oc_Exact_fraction, od_Exact_fraction, .func (PySem.W.fnOf "fraction" "Exact.fraction" (defArgs s_Exact_fraction) (defBody s_Exact_fraction) (defScope s_Exact_fraction) .none kV_Exact_fraction dc_Exact_fraction pm_Exact_fraction an_Exact_fraction cd_Exact_fraction ct_Exact_fraction), sl_Exact_fraction⟩)
    (c_Exact_fraction : PySem.W.codeIn K cd_Exact_fraction "Exact.fraction" = true)
    (k_Exact_fraction : PySem.W.keepIn K (.ref f_Exact_fraction) = true)
    (a_law_row : PySem.W.nsIn K mainGlobals "_law_row" = some (some (.ref f_law_row)))
    (l_law_row : K.lookup f_law_row = some ⟨oc_law_row, od_law_row, .func (PySem.W.fnOf "_law_row" "_law_row" (defArgs s_law_row) (defBody s_law_row) (defScope s_law_row) .none kV_law_row dc_law_row pm_law_row an_law_row cd_law_row ct_law_row), sl_law_row⟩)
    (c_law_row : PySem.W.codeIn K cd_law_row "_law_row" = true)
    (k_law_row : PySem.W.keepIn K (.ref f_law_row) = true)
    (a_law_words : PySem.W.nsIn K mainGlobals "_law_words" = some (some (.ref f_law_words)))
    (l_law_words : K.lookup f_law_words = some ⟨oc_law_words, od_law_words, .func (PySem.W.fnOf "_law_words" "_law_words" (defArgs s_law_words) (defBody s_law_words) (defScope s_law_words) .none kV_law_words dc_law_words pm_law_words an_law_words cd_law_words ct_law_words), sl_law_words⟩)
    (c_law_words : PySem.W.codeIn K cd_law_words "_law_words" = true)
    (k_law_words : PySem.W.keepIn K (.ref f_law_words) = true)
    (a_law_read : PySem.W.nsIn K mainGlobals "_law_read" = some (some (.ref f_law_read)))
    (l_law_read : K.lookup f_law_read = some ⟨oc_law_read, od_law_read, .func (PySem.W.fnOf "_law_read" "_law_read" (defArgs s_law_read) (defBody s_law_read) (defScope s_law_read) .none kV_law_read dc_law_read pm_law_read an_law_read cd_law_read ct_law_read), sl_law_read⟩)
    (c_law_read : PySem.W.codeIn K cd_law_read "_law_read" = true)
    (k_law_read : PySem.W.keepIn K (.ref f_law_read) = true)
    (n_at : PySem.W.findIn K (.ref C) "__ne__" = some (some (.builtin "object.__ne__")))
    (n_sub : PySem.W.subIn K (.ref C) (.type "object") = some true)
    (n_atE : PySem.W.findIn K (.ref Ce) "__ne__" = some (some (.builtin "object.__ne__")))
    (n_subE : PySem.W.subIn K (.ref Ce) (.type "object") = some true)
    (kt_E : PySem.W.kitOne K (.type "tuple") (.ref Ce) = some false)
    (nf_E : PySem.W.notFirst K Ce (.type "tuple") = true)
    (a_Exact_eq : PySem.W.findIn K (.ref Ce) "__eq__" = some (some (.ref f_Exact_eq)))
    (i_Exact_eq : PySem.W.isFn K (.ref f_Exact_eq) = true)
    (l_Exact_eq : K.lookup f_Exact_eq = some ⟨oc_Exact_eq, od_Exact_eq, .func (PySem.W.fnOf "__eq__" "Exact.__eq__" (defArgs s_Exact_eq) (defBody s_Exact_eq) (defScope s_Exact_eq) .none kV_Exact_eq dc_Exact_eq pm_Exact_eq an_Exact_eq cd_Exact_eq ct_Exact_eq), sl_Exact_eq⟩)
    (c_Exact_eq : PySem.W.codeIn K cd_Exact_eq "Exact.__eq__" = true)
    (k_Exact_eq : PySem.W.keepIn K (.ref f_Exact_eq) = true)
    (a_beside_fraction : PySem.W.nsIn K mainGlobals "beside_fraction" = some (some (.ref f_beside_fraction)))
    (l_beside_fraction : K.lookup f_beside_fraction = some ⟨oc_beside_fraction, od_beside_fraction, .func (PySem.W.fnOf "beside_fraction" "beside_fraction" (defArgs s_beside_fraction) (defBody s_beside_fraction) (defScope s_beside_fraction) .none kV_beside_fraction dc_beside_fraction pm_beside_fraction an_beside_fraction cd_beside_fraction ct_beside_fraction), sl_beside_fraction⟩)
    (c_beside_fraction : PySem.W.codeIn K cd_beside_fraction "beside_fraction" = true)
    (k_beside_fraction : PySem.W.keepIn K (.ref f_beside_fraction) = true)
    (a_sign_along_line : PySem.W.nsIn K mainGlobals "sign_along_line" = some (some (.ref f_sign_along_line)))
    (l_sign_along_line : K.lookup f_sign_along_line = some ⟨oc_sign_along_line, od_sign_along_line, .func (PySem.W.fnOf "sign_along_line" "sign_along_line" (defArgs s_sign_along_line) (defBody s_sign_along_line) (defScope s_sign_along_line) .none kV_sign_along_line dc_sign_along_line pm_sign_along_line an_sign_along_line cd_sign_along_line ct_sign_along_line), sl_sign_along_line⟩)
    (c_sign_along_line : PySem.W.codeIn K cd_sign_along_line "sign_along_line" = true)
    (k_sign_along_line : PySem.W.keepIn K (.ref f_sign_along_line) = true)
    (a_Exact_order : PySem.W.findIn K (.ref Ce) "order" = some (some (.ref f_Exact_order)))
    (i_Exact_order : PySem.W.isFn K (.ref f_Exact_order) = true)
    (l_Exact_order : K.lookup f_Exact_order = some ⟨oc_Exact_order, od_Exact_order, .func (PySem.W.fnOf "order" "Exact.order" (defArgs s_Exact_order) (defBody s_Exact_order) (defScope s_Exact_order) .none kV_Exact_order dc_Exact_order pm_Exact_order an_Exact_order cd_Exact_order ct_Exact_order), sl_Exact_order⟩)
    (c_Exact_order : PySem.W.codeIn K cd_Exact_order "Exact.order" = true)
    (k_Exact_order : PySem.W.keepIn K (.ref f_Exact_order) = true)
    (a_difference : PySem.W.nsIn K mainGlobals "difference" = some (some (.ref f_difference)))
    (l_difference : K.lookup f_difference = some ⟨oc_difference, od_difference, .func (PySem.W.fnOf "difference" "difference" (defArgs s_difference) (defBody s_difference) (defScope s_difference) .none kV_difference dc_difference pm_difference an_difference cd_difference ct_difference), sl_difference⟩)
    (c_difference : PySem.W.codeIn K cd_difference "difference" = true)
    (k_difference : PySem.W.keepIn K (.ref f_difference) = true)
    (a_sign_at : PySem.W.nsIn K mainGlobals "sign_at" = some (some (.ref f_sign_at)))
    (l_sign_at : K.lookup f_sign_at = some ⟨oc_sign_at, od_sign_at, .func (PySem.W.fnOf "sign_at" "sign_at" (defArgs s_sign_at) (defBody s_sign_at) (defScope s_sign_at) .none kV_sign_at dc_sign_at pm_sign_at an_sign_at cd_sign_at ct_sign_at), sl_sign_at⟩)
    (c_sign_at : PySem.W.codeIn K cd_sign_at "sign_at" = true)
    (k_sign_at : PySem.W.keepIn K (.ref f_sign_at) = true)
    (a_sign_far_out : PySem.W.nsIn K mainGlobals "sign_far_out" = some (some (.ref f_sign_far_out)))
    (l_sign_far_out : K.lookup f_sign_far_out = some ⟨oc_sign_far_out, od_sign_far_out, .func (PySem.W.fnOf "sign_far_out" "sign_far_out" (defArgs s_sign_far_out) (defBody s_sign_far_out) (defScope s_sign_far_out) .none kV_sign_far_out dc_sign_far_out pm_sign_far_out an_sign_far_out cd_sign_far_out ct_sign_far_out), sl_sign_far_out⟩)
    (c_sign_far_out : PySem.W.codeIn K cd_sign_far_out "sign_far_out" = true)
    (k_sign_far_out : PySem.W.keepIn K (.ref f_sign_far_out) = true)
    (a_sign_from : PySem.W.nsIn K mainGlobals "sign_from" = some (some (.ref f_sign_from)))
    (l_sign_from : K.lookup f_sign_from = some ⟨oc_sign_from, od_sign_from, .func (PySem.W.fnOf "sign_from" "sign_from" (defArgs s_sign_from) (defBody s_sign_from) (defScope s_sign_from) .none kV_sign_from dc_sign_from pm_sign_from an_sign_from cd_sign_from ct_sign_from), sl_sign_from⟩)
    (c_sign_from : PySem.W.codeIn K cd_sign_from "sign_from" = true)
    (k_sign_from : PySem.W.keepIn K (.ref f_sign_from) = true)
    (a_sign_towards : PySem.W.nsIn K mainGlobals "sign_towards" = some (some (.ref f_sign_towards)))
    (l_sign_towards : K.lookup f_sign_towards = some ⟨oc_sign_towards, od_sign_towards, .func (PySem.W.fnOf "sign_towards" "sign_towards" (defArgs s_sign_towards) (defBody s_sign_towards) (defScope s_sign_towards) .none kV_sign_towards dc_sign_towards pm_sign_towards an_sign_towards cd_sign_towards ct_sign_towards), sl_sign_towards⟩)
    (c_sign_towards : PySem.W.codeIn K cd_sign_towards "sign_towards" = true)
    (k_sign_towards : PySem.W.keepIn K (.ref f_sign_towards) = true)
    (a_limit_beside : PySem.W.nsIn K mainGlobals "limit_beside" = some (some (.ref f_limit_beside)))
    (l_limit_beside : K.lookup f_limit_beside = some ⟨oc_limit_beside, od_limit_beside, .func (PySem.W.fnOf "limit_beside" "limit_beside" (defArgs s_limit_beside) (defBody s_limit_beside) (defScope s_limit_beside) .none kV_limit_beside dc_limit_beside pm_limit_beside an_limit_beside cd_limit_beside ct_limit_beside), sl_limit_beside⟩)
    (c_limit_beside : PySem.W.codeIn K cd_limit_beside "limit_beside" = true)
    (k_limit_beside : PySem.W.keepIn K (.ref f_limit_beside) = true)
    (a_never_below : PySem.W.nsIn K mainGlobals "never_below" = some (some (.ref f_never_below)))
    (l_never_below : K.lookup f_never_below = some ⟨oc_never_below, od_never_below, .func (PySem.W.fnOf "never_below" "never_below" (defArgs s_never_below) (defBody s_never_below) (defScope s_never_below) .none kV_never_below dc_never_below pm_never_below an_never_below cd_never_below ct_never_below), sl_never_below⟩)
    (c_never_below : PySem.W.codeIn K cd_never_below "never_below" = true)
    (k_never_below : PySem.W.keepIn K (.ref f_never_below) = true)
    (a_never_more : PySem.W.nsIn K mainGlobals "never_more" = some (some (.ref f_never_more)))
    (l_never_more : K.lookup f_never_more = some ⟨oc_never_more, od_never_more, .func (PySem.W.fnOf "never_more" "never_more" (defArgs s_never_more) (defBody s_never_more) (defScope s_never_more) .none kV_never_more dc_never_more pm_never_more an_never_more cd_never_more ct_never_more), sl_never_more⟩)
    (c_never_more : PySem.W.codeIn K cd_never_more "never_more" = true)
    (k_never_more : PySem.W.keepIn K (.ref f_never_more) = true)
    (a_law_near : PySem.W.nsIn K mainGlobals "_law_near" = some (some (.ref f_law_near)))
    (l_law_near : K.lookup f_law_near = some ⟨oc_law_near, od_law_near, .func (PySem.W.fnOf "_law_near" "_law_near" (defArgs s_law_near) (defBody s_law_near) (defScope s_law_near) .none kV_law_near dc_law_near pm_law_near an_law_near cd_law_near ct_law_near), sl_law_near⟩)
    (c_law_near : PySem.W.codeIn K cd_law_near "_law_near" = true)
    (k_law_near : PySem.W.keepIn K (.ref f_law_near) = true)
    (a_law_limits_right : PySem.W.nsIn K mainGlobals "_law_limits_right" = some (some (.ref f_law_limits_right)))
    (l_law_limits_right : K.lookup f_law_limits_right = some ⟨oc_law_limits_right, od_law_limits_right, .func (PySem.W.fnOf "_law_limits_right" "_law_limits_right" (defArgs s_law_limits_right) (defBody s_law_limits_right) (defScope s_law_limits_right) .none kV_law_limits_right dc_law_limits_right pm_law_limits_right an_law_limits_right cd_law_limits_right ct_law_limits_right), sl_law_limits_right⟩)
    (c_law_limits_right : PySem.W.codeIn K cd_law_limits_right "_law_limits_right" = true)
    (k_law_limits_right : PySem.W.keepIn K (.ref f_law_limits_right) = true)
    (a_law_right : PySem.W.nsIn K mainGlobals "_law_right" = some (some (.ref f_law_right)))
    (l_law_right : K.lookup f_law_right = some ⟨oc_law_right, od_law_right, .func (PySem.W.fnOf "_law_right" "_law_right" (defArgs s_law_right) (defBody s_law_right) (defScope s_law_right) .none kV_law_right dc_law_right pm_law_right an_law_right cd_law_right ct_law_right), sl_law_right⟩)
    (c_law_right : PySem.W.codeIn K cd_law_right "_law_right" = true)
    (k_law_right : PySem.W.keepIn K (.ref f_law_right) = true)
    (a_law : PySem.W.nsIn K mainGlobals "law" = some (some (.ref f_law)))
    (l_law : K.lookup f_law = some ⟨oc_law, od_law, .func (PySem.W.fnOf "law" "law" (defArgs s_law) (defBody s_law) (defScope s_law) .none kV_law dc_law pm_law an_law cd_law ct_law), sl_law⟩)
    (c_law : PySem.W.codeIn K cd_law "law" = true)
    (k_law : PySem.W.keepIn K (.ref f_law) = true) :
    ∃ fd : FuncData, (∀ (s : Shared) (v : Value), BindsTo s fd ⟨[v], []⟩ [("_law_script", v)]) ∧ ∀ base : Heap, K.In base → base.Ns mainGlobals mg → FnG l.prog w K mg base 12 fa fd ["_law_script"] (spLaw K) := by
  have e := hfa.symm.trans (PySem.W.mg_of X G a_law)
  cases e
  have T : Txt4 K mg tG t1 t2 t3 tP tC aO aW J C Ce Cl := { len := PySem.W.mg_none_of X G z_len, abs := PySem.W.mg_none_of X G z_abs, int_ := PySem.W.mg_none_of X G z_int, bool_ := PySem.W.mg_none_of X G z_bool, tuple_ := PySem.W.mg_none_of X G z_tuple, isinstance := PySem.W.mg_none_of X G z_isinstance, divmod := PySem.W.mg_none_of X G z_divmod, max := PySem.W.mg_none_of X G z_max, min := PySem.W.mg_none_of X G z_min, range := PySem.W.mg_none_of X G z_range, all := PySem.W.mg_none_of X G z_all, repr := PySem.W.mg_none_of X G z_repr, str_ := PySem.W.mg_none_of X G z_str, enumerate := PySem.W.mg_none_of X G z_enumerate, mgG := PySem.W.mg_of X G aG, mgO := PySem.W.mg_of X G aOp, opn := ⟨_, _, _, laOp, rfl, rfl, (by show 2 ≤ sizeLine; decide), .cons ⟨_, rfl⟩ (.cons ⟨_, rfl⟩ .nil)⟩, mgOh := PySem.W.mg_of X G aOh, mgPi := PySem.W.mg_of X G aPi, mgJo := PySem.W.mg_of X G aJo, mgW := PySem.W.mg_of X G aWo, wds := ⟨_, _, _, laWo, rfl, rfl, (by show 2 ≤ sizeLine; decide), .cons ⟨_, rfl⟩ (.cons ⟨_, rfl⟩ .nil)⟩, mgJ := PySem.W.mg_of X G aJ, mgC := PySem.W.mg_of X G aC, clJ := ⟨pgJ, hdJ, poJ, saJ⟩, nJ := nJ_row, caJ := caJ, cnJ := cn, ctJ := ct, cmJ := cmJ, isJ := (by unfold PySem.W.kitOne; simp), ktJ := kt_J, cl := ⟨pgC, hdC, poC, saC⟩, nRow := nC_row, nMat := nC_matrix, nScl := nC_scale, nFour := nC_four, mgP := PySem.W.mg_of X G aGP, mgCo := PySem.W.mg_of X G aMS, mgE := PySem.W.mg_of X G aCe, clE := ⟨pgCe, hdCe, poCe, saCe⟩, nP := nCe_parts, mgL := PySem.W.mg_of X G aCl, clL := ⟨pgCl, hdCl, poCl, saCl⟩, nSec := nCl_section, nBeh := nCl_behind, nFar := nCl_far }
  refine ⟨PySem.W.fnOf "law" "law" (defArgs s_law) (defBody s_law) (defScope s_law) .none kV_law dc_law pm_law an_law cd_law ct_law, fun s v => .of_eq rfl, fun base _ _ => ?_⟩
  have T4 := T
  replace T := T4.toTxt3
  have F_is_integer := fun_mk (st := s_is_integer) l_is_integer c_is_integer k_is_integer
  have b_is_integer := F_is_integer.binds (ps := ["value"]) fun _ _ _ _ _ _ us hl => match us, hl with | [_], _ => rfl
  have D_is_integer : Df l.prog w K mg base 1 "is_integer" ["value"] spIsInt := ⟨_, _, ok_isint F_is_integer T.toTxt, PySem.W.mg_of X G a_is_integer, k_is_integer, b_is_integer⟩
  have F_is_integer_within := fun_mk (st := s_is_integer_within) l_is_integer_within c_is_integer_within k_is_integer_within
  have b_is_integer_within := F_is_integer_within.binds (ps := ["value", "least", "most"]) fun _ _ _ _ _ _ us hl => match us, hl with | [_, _, _], _ => rfl
  have D_is_integer_within : Df l.prog w K mg base 2 "is_integer_within" ["value", "least", "most"] spWithin := ⟨_, _, ok_within F_is_integer_within D_is_integer, PySem.W.mg_of X G a_is_integer_within, k_is_integer_within, b_is_integer_within⟩
  have F_is_pair_of_integers := fun_mk (st := s_is_pair_of_integers) l_is_pair_of_integers c_is_pair_of_integers k_is_pair_of_integers
  have b_is_pair_of_integers := F_is_pair_of_integers.binds (ps := ["value"]) fun _ _ _ _ _ _ us hl => match us, hl with | [_], _ => rfl
  have D_is_pair_of_integers : Df l.prog w K mg base 2 "is_pair_of_integers" ["value"] spIsPair := ⟨_, _, ok_ispair F_is_pair_of_integers T.toTxt D_is_integer, PySem.W.mg_of X G a_is_pair_of_integers, k_is_pair_of_integers, b_is_pair_of_integers⟩
  have F_is_resistance := fun_mk (st := s_is_resistance) l_is_resistance c_is_resistance k_is_resistance
  have b_is_resistance := F_is_resistance.binds (ps := ["value"]) fun _ _ _ _ _ _ us hl => match us, hl with | [_], _ => rfl
  have D_is_resistance : Df l.prog w K mg base 3 "is_resistance" ["value"] spIsRes := ⟨_, _, ok_isres F_is_resistance T.toTxt2 D_is_integer D_is_pair_of_integers, PySem.W.mg_of X G a_is_resistance, k_is_resistance, b_is_resistance⟩
  have F_pair_of := fun_mk (st := s_pair_of) l_pair_of c_pair_of k_pair_of
  have b_pair_of := F_pair_of.binds (ps := ["fraction_or_open"]) fun _ _ _ _ _ _ us hl => match us, hl with | [_], _ => rfl
  have D_pair_of : Df l.prog w K mg base 2 "pair_of" ["fraction_or_open"] spPairOf := ⟨_, _, ok_pairof F_pair_of D_is_integer, PySem.W.mg_of X G a_pair_of, k_pair_of, b_pair_of⟩
  have F_common_divisor := fun_mk (st := s_common_divisor) l_common_divisor c_common_divisor k_common_divisor
  have b_common_divisor := F_common_divisor.binds (ps := ["first", "second"]) fun _ _ _ _ _ _ us hl => match us, hl with | [_, _], _ => rfl
  have D_common_divisor : Df l.prog w K mg base 1 "common_divisor" ["first", "second"] spGcd := ⟨_, _, ok_gcd F_common_divisor T.toTxt, PySem.W.mg_of X G a_common_divisor, k_common_divisor, b_common_divisor⟩
  have F_lowest_terms := fun_mk (st := s_lowest_terms) l_lowest_terms c_lowest_terms k_lowest_terms
  have b_lowest_terms := F_lowest_terms.binds (ps := ["top", "bottom"]) fun _ _ _ _ _ _ us hl => match us, hl with | [_, _], _ => rfl
  have D_lowest_terms : Df l.prog w K mg base 2 "lowest_terms" ["top", "bottom"] spLow := ⟨_, _, ok_low F_lowest_terms D_common_divisor, PySem.W.mg_of X G a_lowest_terms, k_lowest_terms, b_lowest_terms⟩
  have F_lowest_pair := fun_mk (st := s_lowest_pair) l_lowest_pair c_lowest_pair k_lowest_pair
  have b_lowest_pair := F_lowest_pair.binds (ps := ["fraction_or_open"]) fun _ _ _ _ _ _ us hl => match us, hl with | [_], _ => rfl
  have D_lowest_pair : Df l.prog w K mg base 3 "lowest_pair" ["fraction_or_open"] spLowP := ⟨_, _, ok_lowp F_lowest_pair D_pair_of D_lowest_terms, PySem.W.mg_of X G a_lowest_pair, k_lowest_pair, b_lowest_pair⟩
  have F_is_piece := fun_mk (st := s_is_piece) l_is_piece c_is_piece k_is_piece
  have b_is_piece := F_is_piece.binds (ps := ["value"]) fun _ _ _ _ _ _ us hl => match us, hl with | [_], _ => rfl
  have D_is_piece : Df l.prog w K mg base 3 "is_piece" ["value"] spIsPiece := ⟨_, _, ok_ispiece F_is_piece T D_is_integer_within, PySem.W.mg_of X G a_is_piece, k_is_piece, b_is_piece⟩
  have F_checked_row := fun_mk (st := s_checked_row) l_checked_row c_checked_row k_checked_row
  have b_checked_row := F_checked_row.binds (ps := ["pieces"]) fun _ _ _ _ _ _ us hl => match us, hl with | [_], _ => rfl
  have D_checked_row : Df l.prog w K mg base 4 "checked_row" ["pieces"] (spChk J) := ⟨_, _, ok_chk F_checked_row T D_is_piece, PySem.W.mg_of X G a_checked_row, k_checked_row, b_checked_row⟩
  have F_matrix_and_scale := fun_mk (st := s_matrix_and_scale) l_matrix_and_scale c_matrix_and_scale k_matrix_and_scale
  have b_matrix_and_scale := F_matrix_and_scale.binds (ps := ["row"]) fun _ _ _ _ _ _ us hl => match us, hl with | [_], _ => rfl
  have D_matrix_and_scale : Df l.prog w K mg base 1 "matrix_and_scale" ["row"] spMat := ⟨_, _, ok_mat F_matrix_and_scale, PySem.W.mg_of X G a_matrix_and_scale, k_matrix_and_scale, b_matrix_and_scale⟩
  have F_shown_before := fun_mk (st := s_shown_before) l_shown_before c_shown_before k_shown_before
  have b_shown_before := F_shown_before.binds (ps := ["matrix", "pair"]) fun _ _ _ _ _ _ us hl => match us, hl with | [_, _], _ => rfl
  have D_shown_before : Df l.prog w K mg base 1 "shown_before" ["matrix", "pair"] spShown := ⟨_, _, ok_shown F_shown_before, PySem.W.mg_of X G a_shown_before, k_shown_before, b_shown_before⟩
  have F_piece_text := fun_mk (st := s_piece_text) l_piece_text c_piece_text k_piece_text
  have b_piece_text := F_piece_text.binds (ps := ["word", "ohms"]) fun _ _ _ _ _ _ us hl => match us, hl with | [_, _], _ => rfl
  have D_piece_text : Df l.prog w K mg base 1 "piece_text" ["word", "ohms"] spPtx := ⟨_, _, ok_ptx F_piece_text, PySem.W.mg_of X G a_piece_text, k_piece_text, b_piece_text⟩
  have F_piece_with_text := fun_mk (st := s_piece_with_text) l_piece_with_text c_piece_with_text k_piece_with_text
  have b_piece_with_text := F_piece_with_text.binds (ps := ["text"]) fun _ _ _ _ _ _ us hl => match us, hl with | [_], _ => rfl
  have D_piece_with_text : Df l.prog w K mg base 2 "piece_with_text" ["text"] spPwt := ⟨_, _, ok_pwt F_piece_with_text T D_piece_text, PySem.W.mg_of X G a_piece_with_text, k_piece_with_text, b_piece_with_text⟩
  have F_law_cup := fun_mk (st := s_law_cup) l_law_cup c_law_cup k_law_cup
  have b_law_cup := F_law_cup.binds (ps := ["_law_script", "_law_spot"]) fun _ _ _ _ _ _ us hl => match us, hl with | [_, _], _ => rfl
  have D_law_cup : Df l.prog w K mg base 1 "_law_cup" ["_law_script", "_law_spot"] (spCup K) := ⟨_, _, ok_cup F_law_cup T.toTxt, PySem.W.mg_of X G a_law_cup, k_law_cup, b_law_cup⟩
  have F_law_sip := fun_mk (st := s_law_sip) l_law_sip c_law_sip k_law_sip
  have b_law_sip := F_law_sip.binds (ps := ["_law_cup_here", "_law_many"]) fun _ _ _ _ _ _ us hl => match us, hl with | [_, _], _ => rfl
  have D_law_sip : Df l.prog w K mg base 1 "_law_sip" ["_law_cup_here", "_law_many"] spSip := ⟨_, _, ok_sip F_law_sip T.toTxt, PySem.W.mg_of X G a_law_sip, k_law_sip, b_law_sip⟩
  have F_law_pick := fun_mk (st := s_law_pick) l_law_pick c_law_pick k_law_pick
  have b_law_pick := F_law_pick.binds (ps := ["_law_cup_here", "_law_things"]) fun _ _ _ _ _ _ us hl => match us, hl with | [_, _], _ => rfl
  have D_law_pick : Df l.prog w K mg base 2 "_law_pick" ["_law_cup_here", "_law_things"] spPick := ⟨_, _, ok_pick F_law_pick T.toTxt D_law_sip, PySem.W.mg_of X G a_law_pick, k_law_pick, b_law_pick⟩
  have F_JoinedRow_init := fun_mk (st := s_JoinedRow_init) l_JoinedRow_init c_JoinedRow_init k_JoinedRow_init
  have b_JoinedRow_init := F_JoinedRow_init.binds (ps := ["self", "row"]) fun _ _ _ _ _ _ us hl => match us, hl with | [_, _], _ => rfl
  have F_Pattern_call := fun_mk (st := s_Pattern_call) l_Pattern_call c_Pattern_call k_Pattern_call
  have b_Pattern_call := F_Pattern_call.binds (ps := ["self", "load"]) fun _ _ _ _ _ _ us hl => match us, hl with | [_, _], _ => rfl
  have F_Pattern_add := fun_mk (st := s_Pattern_add) l_Pattern_add c_Pattern_add k_Pattern_add
  have b_Pattern_add := F_Pattern_add.binds (ps := ["self", "other"]) fun _ _ _ _ _ _ us hl => match us, hl with | [_, _], _ => rfl
  have F_Pattern_read := fun_mk (st := s_Pattern_read) l_Pattern_read c_Pattern_read k_Pattern_read
  have b_Pattern_read := F_Pattern_read.binds (ps := ["text"]) fun _ _ _ _ _ _ us hl => match us, hl with | [_], _ => rfl
  have F_Pattern_eq := fun_mk (st := s_Pattern_eq) l_Pattern_eq c_Pattern_eq k_Pattern_eq
  have b_Pattern_eq := F_Pattern_eq.binds (ps := ["self", "other"]) fun _ _ _ _ _ _ us hl => match us, hl with | [_, _], _ => rfl
  have F_Pattern_init := fun_mk (st := s_Pattern_init) l_Pattern_init c_Pattern_init k_Pattern_init
  have X_join : JoinD l.prog w K mg base J f_JoinedRow_init _ := ⟨⟨mkJ, a_JoinedRow_init, i_JoinedRow_init, kcJ⟩, ok_join F_JoinedRow_init T, b_JoinedRow_init⟩
  have X_pat : PatD l.prog w K mg base C J f_Pattern_init := ⟨⟨mkC, a_Pattern_init, i_Pattern_init, kcC⟩, ok_pinit F_Pattern_init T D_checked_row D_matrix_and_scale D_lowest_terms⟩
  have G_call := ok_call (P := l.prog) (w := w) (base := base) F_Pattern_call T D_is_resistance D_pair_of D_shown_before D_lowest_pair
  have OC : OwC l.prog w K mg base C f_Pattern_call _ := ⟨⟨a_Pattern_call, i_Pattern_call, fi_call⟩, G_call, fnR_mk G_call b_Pattern_call, fun _ _ _ _ => .of_eq rfl⟩
  have OR : OwR l.prog w K mg base C pr_Pattern_read f_Pattern_read _ := ⟨⟨rdC, gaC⟩, ⟨sa_Pattern_read, ⟨_, sc_Pattern_read⟩, k_Pattern_read⟩, ok_read F_Pattern_read T X_pat X_join D_piece_with_text, b_Pattern_read⟩
  have e_add : PySem.dunder Operator.Add.info.2 = ("__add__" : Str) := by decide +kernel
  have OA : OwA l.prog w K mg base C f_Pattern_add _ := ⟨sfC, (by rw [e_add]; exact a_Pattern_add), i_Pattern_add, ok_add F_Pattern_add T X_pat X_join, b_Pattern_add⟩
  have F_is_count := fun_mk (st := s_is_count) l_is_count c_is_count k_is_count
  have b_is_count := F_is_count.binds (ps := ["value"]) fun _ _ _ _ _ _ us hl => match us, hl with | [_], _ => rfl
  have D_is_count : Df l.prog w K mg base 3 "is_count" ["value"] spCount := ⟨_, _, ok_count F_is_count T4 D_is_integer_within, PySem.W.mg_of X G a_is_count, k_is_count, b_is_count⟩
  have F_fraction_text := fun_mk (st := s_fraction_text) l_fraction_text c_fraction_text k_fraction_text
  have b_fraction_text := F_fraction_text.binds (ps := ["top", "bottom"]) fun _ _ _ _ _ _ us hl => match us, hl with | [_, _], _ => rfl
  have D_fraction_text : Df l.prog w K mg base 1 "fraction_text" ["top", "bottom"] spFt := ⟨_, _, ok_ft F_fraction_text T.toTxt, PySem.W.mg_of X G a_fraction_text, k_fraction_text, b_fraction_text⟩
  have F_sign := fun_mk (st := s_sign) l_sign c_sign k_sign
  have b_sign := F_sign.binds (ps := ["number"]) fun _ _ _ _ _ _ us hl => match us, hl with | [_], _ => rfl
  have D_sign : Df l.prog w K mg base 1 "sign" ["number"] spSign := ⟨_, _, ok_sign F_sign, PySem.W.mg_of X G a_sign, k_sign, b_sign⟩
  have F_square_root := fun_mk (st := s_square_root) l_square_root c_square_root k_square_root
  have b_square_root := F_square_root.binds (ps := ["number"]) fun _ _ _ _ _ _ us hl => match us, hl with | [_], _ => rfl
  have D_square_root : Df l.prog w K mg base 1 "square_root" ["number"] spRoot := ⟨_, _, ok_sqrt F_square_root, PySem.W.mg_of X G a_square_root, k_square_root, b_square_root⟩
  have F_under_root := fun_mk (st := s_under_root) l_under_root c_under_root k_under_root
  have b_under_root := F_under_root.binds (ps := ["square", "line", "whole"]) fun _ _ _ _ _ _ us hl => match us, hl with | [_, _, _], _ => rfl
  have D_under_root : Df l.prog w K mg base 1 "under_root" ["square", "line", "whole"] spUnder := ⟨_, _, ok_under F_under_root, PySem.W.mg_of X G a_under_root, k_under_root, b_under_root⟩
  have F_equation_of_fraction := fun_mk (st := s_equation_of_fraction) l_equation_of_fraction c_equation_of_fraction k_equation_of_fraction
  have b_equation_of_fraction := F_equation_of_fraction.binds (ps := ["top", "bottom"]) fun _ _ _ _ _ _ us hl => match us, hl with | [_, _], _ => rfl
  have D_equation_of_fraction : Df l.prog w K mg base 3 "equation_of_fraction" ["top", "bottom"] spEqF := ⟨_, _, ok_eqf F_equation_of_fraction D_lowest_terms, PySem.W.mg_of X G a_equation_of_fraction, k_equation_of_fraction, b_equation_of_fraction⟩
  have F_simplest_equation := fun_mk (st := s_simplest_equation) l_simplest_equation c_simplest_equation k_simplest_equation
  have b_simplest_equation := F_simplest_equation.binds (ps := ["square", "line", "whole"]) fun _ _ _ _ _ _ us hl => match us, hl with | [_, _, _], _ => rfl
  have D_simplest_equation : Df l.prog w K mg base 4 "simplest_equation" ["square", "line", "whole"] spSimp := ⟨_, _, ok_simp F_simplest_equation D_common_divisor D_square_root D_under_root D_equation_of_fraction, PySem.W.mg_of X G a_simplest_equation, k_simplest_equation, b_simplest_equation⟩
  have F_with_commas := fun_mk (st := s_with_commas) l_with_commas c_with_commas k_with_commas
  have b_with_commas := F_with_commas.binds (ps := ["parts"]) fun _ _ _ _ _ _ us hl => match us, hl with | [_], _ => rfl
  have D_with_commas : Df l.prog w K mg base 1 "with_commas" ["parts"] spCm := ⟨_, _, ok_cm F_with_commas T.toTxt, PySem.W.mg_of X G a_with_commas, k_with_commas, b_with_commas⟩
  have F_pair_order := fun_mk (st := s_pair_order) l_pair_order c_pair_order k_pair_order
  have b_pair_order := F_pair_order.binds (ps := ["first", "second"]) fun _ _ _ _ _ _ us hl => match us, hl with | [_, _], _ => rfl
  have D_pair_order : Df l.prog w K mg base 2 "pair_order" ["first", "second"] spPO := ⟨_, _, ok_po F_pair_order D_sign, PySem.W.mg_of X G a_pair_order, k_pair_order, b_pair_order⟩
  have F_check_resistance := fun_mk (st := s_check_resistance) l_check_resistance c_check_resistance k_check_resistance
  have b_check_resistance := F_check_resistance.binds (ps := ["value"]) fun _ _ _ _ _ _ us hl => match us, hl with | [_], _ => rfl
  have D_check_resistance : Df l.prog w K mg base 4 "check_resistance" ["value"] spChkR := ⟨_, _, ok_chkr F_check_resistance D_is_resistance, PySem.W.mg_of X G a_check_resistance, k_check_resistance, b_check_resistance⟩
  have F_check_count := fun_mk (st := s_check_count) l_check_count c_check_count k_check_count
  have b_check_count := F_check_count.binds (ps := ["value"]) fun _ _ _ _ _ _ us hl => match us, hl with | [_], _ => rfl
  have D_check_count : Df l.prog w K mg base 4 "check_count" ["value"] spChkC := ⟨_, _, ok_chkc F_check_count D_is_count, PySem.W.mg_of X G a_check_count, k_check_count, b_check_count⟩
  have F_Exact_init := fun_mk (st := s_Exact_init) l_Exact_init c_Exact_init k_Exact_init
  have b_Exact_init := F_Exact_init.binds (ps := ["self", "square", "line", "whole"]) fun _ _ _ _ _ _ us hl => match us, hl with | [_, _, _, _], _ => rfl
  have X_exact : ExD l.prog w K mg base Ce := ⟨_, _, ⟨mkCe, a_Exact_init, i_Exact_init, kcCe⟩, ok_init F_Exact_init T4 D_is_integer_within D_simplest_equation, b_Exact_init⟩
  have I : IsC K C := ⟨caC, cn, ct, cmC, (by unfold PySem.W.kitOne; simp)⟩
  have IE : IsC K Ce := ⟨caCe, cn, ct, cmCe, (by unfold PySem.W.kitOne; simp)⟩
  have F_check_pattern := fun_mk (st := s_check_pattern) l_check_pattern c_check_pattern k_check_pattern
  have b_check_pattern := F_check_pattern.binds (ps := ["value"]) fun _ _ _ _ _ _ us hl => match us, hl with | [_], _ => rfl
  have D_check_pattern : Df l.prog w K mg base 1 "check_pattern" ["value"] (spChkP C) := ⟨_, _, ok_chkp F_check_pattern T4 I, PySem.W.mg_of X G a_check_pattern, k_check_pattern, b_check_pattern⟩
  have F_ladder_limit := fun_mk (st := s_ladder_limit) l_ladder_limit c_ladder_limit k_ladder_limit
  have b_ladder_limit := F_ladder_limit.binds (ps := ["matrix"]) fun _ _ _ _ _ _ us hl => match us, hl with | [_], _ => rfl
  have D_ladder_limit : Df l.prog w K mg base 7 "ladder_limit" ["matrix"] (spLim aO Ce) := ⟨_, _, ok_lim F_ladder_limit T4 X_exact, PySem.W.mg_of X G a_ladder_limit, k_ladder_limit, b_ladder_limit⟩
  have F_Ladder_init := fun_mk (st := s_Ladder_init) l_Ladder_init c_Ladder_init k_Ladder_init
  have b_Ladder_init := F_Ladder_init.binds (ps := ["self", "pattern", "load"]) fun _ _ _ _ _ _ us hl => match us, hl with | [_, _, _], _ => rfl
  have X_lad : LadD l.prog w K mg base C aO Ce Cl f_Ladder_init _ := ⟨⟨mkCl, a_Ladder_init, i_Ladder_init, kcCl⟩, ok_lad F_Ladder_init T4 D_check_pattern D_check_resistance D_lowest_pair D_ladder_limit, b_Ladder_init⟩
  have F_Ladder_after := fun_mk (st := s_Ladder_after) l_Ladder_after c_Ladder_after k_Ladder_after
  have b_Ladder_after := F_Ladder_after.binds (ps := ["self", "pair"]) fun _ _ _ _ _ _ us hl => match us, hl with | [_, _], _ => rfl
  have M_after : Mt l.prog w K mg base Cl 2 "after" "self" "pair" (spAfter C aO Ce Cl) := ⟨_, _, ok_after F_Ladder_after T4 D_shown_before, ⟨a_Ladder_after, i_Ladder_after, k_Ladder_after⟩, b_Ladder_after, fun _ _ _ _ => .of_eq rfl⟩
  have F_Ladder_call := fun_mk (st := s_Ladder_call) l_Ladder_call c_Ladder_call k_Ladder_call
  have b_Ladder_call := F_Ladder_call.binds (ps := ["self", "count"]) fun _ _ _ _ _ _ us hl => match us, hl with | [_, _], _ => rfl
  have OL : OwL l.prog w K mg base C aO Ce Cl f_Ladder_call _ := ⟨⟨a_Ladder_call, i_Ladder_call, fi_lcall⟩, ok_lcall F_Ladder_call T4 D_check_count M_after D_lowest_pair, fnR_mk (ok_lcall F_Ladder_call T4 D_check_count M_after D_lowest_pair) b_Ladder_call⟩
  have F_Ladder_goes := fun_mk (st := s_Ladder_goes) l_Ladder_goes c_Ladder_goes k_Ladder_goes
  have b_Ladder_goes := F_Ladder_goes.binds (ps := ["self"]) fun _ _ _ _ _ _ us hl => match us, hl with | [_], _ => rfl
  have OG : OwG l.prog w K mg base C aO Ce Cl pr_Ladder_goes f_Ladder_goes _ := ⟨⟨pa_Ladder_goes, pg_Ladder_goes, pt_Ladder_goes, _, pc_Ladder_goes⟩, ok_goes F_Ladder_goes T4 D_pair_order M_after, b_Ladder_goes⟩
  have F_Ladder_limit := fun_mk (st := s_Ladder_limit) l_Ladder_limit c_Ladder_limit k_Ladder_limit
  have b_Ladder_limit := F_Ladder_limit.binds (ps := ["self"]) fun _ _ _ _ _ _ us hl => match us, hl with | [_], _ => rfl
  have OM : OwM l.prog w K mg base C aO Ce Cl pr_Ladder_limit f_Ladder_limit _ := ⟨⟨pa_Ladder_limit, pg_Ladder_limit, pt_Ladder_limit, _, pc_Ladder_limit⟩, ok_limit F_Ladder_limit T4, b_Ladder_limit⟩
  have F_Exact_equation := fun_mk (st := s_Exact_equation) l_Exact_equation c_Exact_equation k_Exact_equation
  have b_Exact_equation := F_Exact_equation.binds (ps := ["self"]) fun _ _ _ _ _ _ us hl => match us, hl with | [_], _ => rfl
  have OQ : OwQ l.prog w K mg base Ce pr_Exact_equation f_Exact_equation _ := ⟨⟨pa_Exact_equation, pg_Exact_equation, pt_Exact_equation, _, pc_Exact_equation⟩, ok_eqn F_Exact_equation T4, b_Exact_equation⟩
  have F_Exact_fraction := fun_mk (st := s_Exact_fraction) l_Exact_fraction c_Exact_fraction k_Exact_fraction
  have b_Exact_fraction := F_Exact_fraction.binds (ps := ["self"]) fun _ _ _ _ _ _ us hl => match us, hl with | [_], _ => rfl
  have OF : OwF l.prog w K mg base Ce pr_Exact_fraction f_Exact_fraction _ := ⟨⟨pa_Exact_fraction, pg_Exact_fraction, pt_Exact_fraction, _, pc_Exact_fraction⟩, ok_frac F_Exact_fraction T4, b_Exact_fraction⟩
  have F_law_row := fun_mk (st := s_law_row) l_law_row c_law_row k_law_row
  have b_law_row := F_law_row.binds (ps := ["_law_cup_here", "_law_most"]) fun _ _ _ _ _ _ us hl => match us, hl with | [_, _], _ => rfl
  have D_law_row : Df l.prog w K mg base 3 "_law_row" ["_law_cup_here", "_law_most"] spRow := ⟨_, _, ok_row F_law_row T.toTxt D_law_sip D_law_pick, PySem.W.mg_of X G a_law_row, k_law_row, b_law_row⟩
  have F_law_words := fun_mk (st := s_law_words) l_law_words c_law_words k_law_words
  have b_law_words := F_law_words.binds (ps := ["_law_row_here"]) fun _ _ _ _ _ _ us hl => match us, hl with | [_], _ => rfl
  have D_law_words : Df l.prog w K mg base 1 "_law_words" ["_law_row_here"] spWords := ⟨_, _, ok_words F_law_words T.toTxt, PySem.W.mg_of X G a_law_words, k_law_words, b_law_words⟩
  have F_law_read := fun_mk (st := s_law_read) l_law_read c_law_read k_law_read
  have b_law_read := F_law_read.binds (ps := ["_law_row_here"]) fun _ _ _ _ _ _ us hl => match us, hl with | [_], _ => rfl
  have D_law_read : Df l.prog w K mg base 8 "_law_read" ["_law_row_here"] (spReadL C) := ⟨_, _, ok_readL F_law_read T OR D_law_words, PySem.W.mg_of X G a_law_read, k_law_read, b_law_read⟩
  have F_Exact_eq := fun_mk (st := s_Exact_eq) l_Exact_eq c_Exact_eq k_Exact_eq
  have b_Exact_eq := F_Exact_eq.binds (ps := ["self", "other"]) fun _ _ _ _ _ _ us hl => match us, hl with | [_, _], _ => rfl
  have nfC : PySem.W.notFirst K C (.ref C) = true := by unfold PySem.W.notFirst; simp
  have OE : OwE l.prog w K mg base C f_Pattern_eq _ := ⟨a_Pattern_eq, i_Pattern_eq, ok_eqp F_Pattern_eq T I, b_Pattern_eq, n_at, n_sub⟩
  have OX : OwX l.prog w K mg base Ce f_Exact_eq _ := ⟨a_Exact_eq, i_Exact_eq, ok_eqt F_Exact_eq T4 kt_E, b_Exact_eq, n_atE, n_subE, nf_E⟩
  have D_poK : Df l.prog w K mg base 2 "pair_order" ["first", "second"] (spPOK K) := ⟨_, _, ok_poK F_pair_order D_sign, PySem.W.mg_of X G a_pair_order, k_pair_order, b_pair_order⟩
  have F_beside_fraction := fun_mk (st := s_beside_fraction) l_beside_fraction c_beside_fraction k_beside_fraction
  have b_beside_fraction := F_beside_fraction.binds (ps := ["parts", "top", "bottom"]) fun _ _ _ _ _ _ us hl => match us, hl with | [_, _, _], _ => rfl
  have D_beside_fraction : Df l.prog w K mg base 2 "beside_fraction" ["parts", "top", "bottom"] spBeside := ⟨_, _, ok_beside F_beside_fraction D_sign, PySem.W.mg_of X G a_beside_fraction, k_beside_fraction, b_beside_fraction⟩
  have F_sign_along_line := fun_mk (st := s_sign_along_line) l_sign_along_line c_sign_along_line k_sign_along_line
  have b_sign_along_line := F_sign_along_line.binds (ps := ["parts", "slope", "height"]) fun _ _ _ _ _ _ us hl => match us, hl with | [_, _, _], _ => rfl
  have D_sign_along_line : Df l.prog w K mg base 3 "sign_along_line" ["parts", "slope", "height"] spSal0 := ⟨_, _, ok_sal0 F_sign_along_line D_sign D_beside_fraction, PySem.W.mg_of X G a_sign_along_line, k_sign_along_line, b_sign_along_line⟩
  have D_sal : Df l.prog w K mg base 4 "sign_along_line" ["parts", "slope", "height"] spSal := ⟨_, _, ok_sal F_sign_along_line D_sign D_beside_fraction D_sign_along_line, PySem.W.mg_of X G a_sign_along_line, k_sign_along_line, b_sign_along_line⟩
  have F_Exact_order := fun_mk (st := s_Exact_order) l_Exact_order c_Exact_order k_Exact_order
  have b_Exact_order := F_Exact_order.binds (ps := ["self", "other"]) fun _ _ _ _ _ _ us hl => match us, hl with | [_, _], _ => rfl
  have M_order : Mt l.prog w K mg base Ce 5 "order" "self" "other" (spOrder Ce) := ⟨_, _, ok_order F_Exact_order T4 D_sal D_beside_fraction, ⟨a_Exact_order, i_Exact_order, k_Exact_order⟩, b_Exact_order, fun _ _ _ _ => .of_eq rfl⟩
  have F_difference := fun_mk (st := s_difference) l_difference c_difference k_difference
  have b_difference := F_difference.binds (ps := ["matrix", "other_matrix"]) fun _ _ _ _ _ _ us hl => match us, hl with | [_, _], _ => rfl
  have D_difference : Df l.prog w K mg base 1 "difference" ["matrix", "other_matrix"] spDiff := ⟨_, _, ok_diff F_difference, PySem.W.mg_of X G a_difference, k_difference, b_difference⟩
  have F_sign_at := fun_mk (st := s_sign_at) l_sign_at c_sign_at k_sign_at
  have b_sign_at := F_sign_at.binds (ps := ["parabola", "pair"]) fun _ _ _ _ _ _ us hl => match us, hl with | [_, _], _ => rfl
  have D_sign_at : Df l.prog w K mg base 2 "sign_at" ["parabola", "pair"] (spSAt K) := ⟨_, _, ok_sat F_sign_at D_sign, PySem.W.mg_of X G a_sign_at, k_sign_at, b_sign_at⟩
  have F_sign_far_out := fun_mk (st := s_sign_far_out) l_sign_far_out c_sign_far_out k_sign_far_out
  have b_sign_far_out := F_sign_far_out.binds (ps := ["parabola"]) fun _ _ _ _ _ _ us hl => match us, hl with | [_], _ => rfl
  have D_sign_far_out : Df l.prog w K mg base 2 "sign_far_out" ["parabola"] spFar := ⟨_, _, ok_far F_sign_far_out D_sign, PySem.W.mg_of X G a_sign_far_out, k_sign_far_out, b_sign_far_out⟩
  have F_sign_from := fun_mk (st := s_sign_from) l_sign_from c_sign_from k_sign_from
  have b_sign_from := F_sign_from.binds (ps := ["parabola", "pair"]) fun _ _ _ _ _ _ us hl => match us, hl with | [_, _], _ => rfl
  have D_sign_from : Df l.prog w K mg base 3 "sign_from" ["parabola", "pair"] (spFrom K) := ⟨_, _, ok_from F_sign_from D_sign_far_out D_sign_at, PySem.W.mg_of X G a_sign_from, k_sign_from, b_sign_from⟩
  have F_sign_towards := fun_mk (st := s_sign_towards) l_sign_towards c_sign_towards k_sign_towards
  have b_sign_towards := F_sign_towards.binds (ps := ["parabola", "limit"]) fun _ _ _ _ _ _ us hl => match us, hl with | [_, _], _ => rfl
  have D_sign_towards : Df l.prog w K mg base 3 "sign_towards" ["parabola", "limit"] (spTow aO) := ⟨_, _, ok_tow F_sign_towards T.toTxt2 D_sign_far_out, PySem.W.mg_of X G a_sign_towards, k_sign_towards, b_sign_towards⟩
  have F_limit_beside := fun_mk (st := s_limit_beside) l_limit_beside c_limit_beside k_limit_beside
  have b_limit_beside := F_limit_beside.binds (ps := ["limit", "pair"]) fun _ _ _ _ _ _ us hl => match us, hl with | [_, _], _ => rfl
  have D_limit_beside : Df l.prog w K mg base 3 "limit_beside" ["limit", "pair"] (spLB K aO) := ⟨_, _, ok_lb F_limit_beside T.toTxt2 D_poK, PySem.W.mg_of X G a_limit_beside, k_limit_beside, b_limit_beside⟩
  have F_never_below := fun_mk (st := s_never_below) l_never_below c_never_below k_never_below
  have b_never_below := F_never_below.binds (ps := ["parabola", "pair", "limit"]) fun _ _ _ _ _ _ us hl => match us, hl with | [_, _, _], _ => rfl
  have D_never_below : Df l.prog w K mg base 4 "never_below" ["parabola", "pair", "limit"] (spNB aO) := ⟨_, _, ok_nb F_never_below D_sign_from D_sign_towards D_poK D_limit_beside, PySem.W.mg_of X G a_never_below, k_never_below, b_never_below⟩
  have F_never_more := fun_mk (st := s_never_more) l_never_more c_never_more k_never_more
  have b_never_more := F_never_more.binds (ps := ["pattern", "other"]) fun _ _ _ _ _ _ us hl => match us, hl with | [_, _], _ => rfl
  have D_never_more : Df l.prog w K mg base 5 "never_more" ["pattern", "other"] (spNM C) := ⟨_, _, ok_nm F_never_more T D_check_pattern D_difference D_never_below, PySem.W.mg_of X G a_never_more, k_never_more, b_never_more⟩
  have F_law_near := fun_mk (st := s_law_near) l_law_near c_law_near k_law_near
  have b_law_near := F_law_near.binds (ps := ["_law_cup_here", "_law_row_here"]) fun _ _ _ _ _ _ us hl => match us, hl with | [_, _], _ => rfl
  have D_law_near : Df l.prog w K mg base 4 "_law_near" ["_law_cup_here", "_law_row_here"] spNear := ⟨_, _, ok_near F_law_near T.toTxt D_law_sip D_law_row, PySem.W.mg_of X G a_law_near, k_law_near, b_law_near⟩
  have F_law_limits_right := fun_mk (st := s_law_limits_right) l_law_limits_right c_law_limits_right k_law_limits_right
  have b_law_limits_right := F_law_limits_right.binds (ps := ["_law_one", "_law_two"]) fun _ _ _ _ _ _ us hl => match us, hl with | [_, _], _ => rfl
  have D_law_limits_right : Df l.prog w K mg base 7 "_law_limits_right" ["_law_one", "_law_two"] (spLimR aO Ce) := ⟨_, _, ok_limr F_law_limits_right T4 OX M_order, PySem.W.mg_of X G a_law_limits_right, k_law_limits_right, b_law_limits_right⟩
  have F_law_right := fun_mk (st := s_law_right) l_law_right c_law_right k_law_right
  have b_law_right := F_law_right.binds (ps := ["_law_cup_here"]) fun _ _ _ _ _ _ us hl => match us, hl with | [_], _ => rfl
  have D_law_right : DfG l.prog w K mg base 11 "_law_right" ["_law_cup_here"] spRight := ⟨_, _, ok_right F_law_right T4 I nfC OA OE X_lad OM D_law_row D_law_near D_law_read D_never_more D_law_limits_right, PySem.W.mg_of X G a_law_right, k_law_right, b_law_right⟩
  exact ok_law (fun_mk (st := s_law) l_law c_law k_law) T X_pat OA D_never_more D_law_cup D_law_right
end RL

open PySem PySem.W PyProof.Rows
set_option maxRecDepth 100000 in
set_option maxHeartbeats 0 in
theorem PySem.Challenge.cw_rungladders_k43_whole_order_of_patterns_holds : PySem.Challenge.rw_rungladders_k43_whole_order_of_patterns.Holds := by
  w_on; o_law; k_head; (case hw => w_witness2)
  k_fill
  refine RL.walk_ofG (l := PySem.Challenge.rw_rungladders_k43_whole_order_of_patterns) (n := 63) (k := 12) (x := "_law_script") (sp := fun w => RL.spLaw _) rfl (by decide) rfl ⟨rfl, by decide, by decide⟩ (fun w h Y => PySem.W.kIn_of Y) ?F (fun _ _ a ns hl _ hS => ⟨a, ns, rfl, hS, hl, fun _ => rfl⟩)
  case F =>
    intro w mg fa h KX G hmg
    refine' RL.all_mk KX G hmg ?aG ?aOh ?aPi ?aJo ?aOp ?laOp ?aWo ?laWo ?aJ ?pgJ ?hdJ ?poJ ?saJ ?mkJ ?kcJ ?nJ_row ?caJ ?cmJ ?cn ?ct ?aC ?pgC ?hdC ?poC ?saC ?mkC ?kcC ?nC_row ?nC_matrix ?nC_scale ?nC_four ?kt_J ?sfC ?rdC ?gaC ?a_JoinedRow_init ?i_JoinedRow_init ?l_JoinedRow_init ?c_JoinedRow_init ?k_JoinedRow_init ?a_Pattern_init ?i_Pattern_init ?l_Pattern_init ?c_Pattern_init ?k_Pattern_init ?a_Pattern_call ?i_Pattern_call ?l_Pattern_call ?c_Pattern_call ?k_Pattern_call ?fi_call ?a_Pattern_add ?i_Pattern_add ?l_Pattern_add ?c_Pattern_add ?k_Pattern_add ?a_Pattern_eq ?i_Pattern_eq ?l_Pattern_eq ?c_Pattern_eq ?k_Pattern_eq ?caC ?cmC ?sa_Pattern_read ?sc_Pattern_read ?l_Pattern_read ?c_Pattern_read ?k_Pattern_read ?z_len ?z_abs ?z_int ?z_bool ?z_tuple ?z_isinstance ?z_divmod ?z_max ?z_min ?z_range ?z_all ?z_repr ?z_str ?z_enumerate ?a_is_integer ?l_is_integer ?c_is_integer ?k_is_integer ?a_is_integer_within ?l_is_integer_within ?c_is_integer_within ?k_is_integer_within ?a_is_pair_of_integers ?l_is_pair_of_integers ?c_is_pair_of_integers ?k_is_pair_of_integers ?a_is_resistance ?l_is_resistance ?c_is_resistance ?k_is_resistance ?a_pair_of ?l_pair_of ?c_pair_of ?k_pair_of ?a_common_divisor ?l_common_divisor ?c_common_divisor ?k_common_divisor ?a_lowest_terms ?l_lowest_terms ?c_lowest_terms ?k_lowest_terms ?a_lowest_pair ?l_lowest_pair ?c_lowest_pair ?k_lowest_pair ?a_is_piece ?l_is_piece ?c_is_piece ?k_is_piece ?a_checked_row ?l_checked_row ?c_checked_row ?k_checked_row ?a_matrix_and_scale ?l_matrix_and_scale ?c_matrix_and_scale ?k_matrix_and_scale ?a_shown_before ?l_shown_before ?c_shown_before ?k_shown_before ?a_piece_text ?l_piece_text ?c_piece_text ?k_piece_text ?a_piece_with_text ?l_piece_with_text ?c_piece_with_text ?k_piece_with_text ?a_law_cup ?l_law_cup ?c_law_cup ?k_law_cup ?a_law_sip ?l_law_sip ?c_law_sip ?k_law_sip ?a_law_pick ?l_law_pick ?c_law_pick ?k_law_pick ?aGP ?aMS ?aCe ?pgCe ?hdCe ?poCe ?saCe ?mkCe ?kcCe ?nCe_parts ?caCe ?cmCe ?aCl ?pgCl ?hdCl ?poCl ?saCl ?mkCl ?kcCl ?nCl_section ?nCl_behind ?nCl_far ?a_is_count ?l_is_count ?c_is_count ?k_is_count ?a_fraction_text ?l_fraction_text ?c_fraction_text ?k_fraction_text ?a_sign ?l_sign ?c_sign ?k_sign ?a_square_root ?l_square_root ?c_square_root ?k_square_root ?a_under_root ?l_under_root ?c_under_root ?k_under_root ?a_equation_of_fraction ?l_equation_of_fraction ?c_equation_of_fraction ?k_equation_of_fraction ?a_simplest_equation ?l_simplest_equation ?c_simplest_equation ?k_simplest_equation ?a_with_commas ?l_with_commas ?c_with_commas ?k_with_commas ?a_pair_order ?l_pair_order ?c_pair_order ?k_pair_order ?a_check_resistance ?l_check_resistance ?c_check_resistance ?k_check_resistance ?a_check_count ?l_check_count ?c_check_count ?k_check_count ?a_Exact_init ?i_Exact_init ?l_Exact_init ?c_Exact_init ?k_Exact_init ?a_check_pattern ?l_check_pattern ?c_check_pattern ?k_check_pattern ?a_ladder_limit ?l_ladder_limit ?c_ladder_limit ?k_ladder_limit ?a_Ladder_init ?i_Ladder_init ?l_Ladder_init ?c_Ladder_init ?k_Ladder_init ?a_Ladder_after ?i_Ladder_after ?l_Ladder_after ?c_Ladder_after ?k_Ladder_after ?a_Ladder_call ?i_Ladder_call ?l_Ladder_call ?c_Ladder_call ?k_Ladder_call ?fi_lcall ?pa_Ladder_goes ?pg_Ladder_goes ?pt_Ladder_goes ?pc_Ladder_goes ?l_Ladder_goes ?c_Ladder_goes ?k_Ladder_goes ?pa_Ladder_limit ?pg_Ladder_limit ?pt_Ladder_limit ?pc_Ladder_limit ?l_Ladder_limit ?c_Ladder_limit ?k_Ladder_limit ?pa_Exact_equation ?pg_Exact_equation ?pt_Exact_equation ?pc_Exact_equation ?l_Exact_equation ?c_Exact_equation ?k_Exact_equation ?pa_Exact_fraction ?pg_Exact_fraction ?pt_Exact_fraction ?pc_Exact_fraction ?l_Exact_fraction ?c_Exact_fraction ?k_Exact_fraction ?a_law_row ?l_law_row ?c_law_row ?k_law_row ?a_law_words ?l_law_words ?c_law_words ?k_law_words ?a_law_read ?l_law_read ?c_law_read ?k_law_read ?n_at ?n_sub ?n_atE ?n_subE ?kt_E ?nf_E ?a_Exact_eq ?i_Exact_eq ?l_Exact_eq ?c_Exact_eq ?k_Exact_eq ?a_beside_fraction ?l_beside_fraction ?c_beside_fraction ?k_beside_fraction ?a_sign_along_line ?l_sign_along_line ?c_sign_along_line ?k_sign_along_line ?a_Exact_order ?i_Exact_order ?l_Exact_order ?c_Exact_order ?k_Exact_order ?a_difference ?l_difference ?c_difference ?k_difference ?a_sign_at ?l_sign_at ?c_sign_at ?k_sign_at ?a_sign_far_out ?l_sign_far_out ?c_sign_far_out ?k_sign_far_out ?a_sign_from ?l_sign_from ?c_sign_from ?k_sign_from ?a_sign_towards ?l_sign_towards ?c_sign_towards ?k_sign_towards ?a_limit_beside ?l_limit_beside ?c_limit_beside ?k_limit_beside ?a_never_below ?l_never_below ?c_never_below ?k_never_below ?a_never_more ?l_never_more ?c_never_more ?k_never_more ?a_law_near ?l_law_near ?c_law_near ?k_law_near ?a_law_limits_right ?l_law_limits_right ?c_law_limits_right ?k_law_limits_right ?a_law_right ?l_law_right ?c_law_right ?k_law_right ?a_law ?l_law ?c_law ?k_law
    (case aJ => k_is)
    (case aC => k_is)
    (case aCe => k_is)
    (case aCl => k_is)
    (case aG => k_is)
    (case aOh => k_is)
    (case aPi => k_is)
    (case aJo => k_is)
    (case aOp => k_is)
    (case laOp => k_is)
    (case aWo => k_is)
    (case laWo => k_is)
    (case pgJ => k_is)
    (case hdJ => k_is)
    (case poJ => k_is)
    (case saJ => k_is)
    (case mkJ => k_is)
    (case kcJ => k_is)
    (case nJ_row => k_is)
    (case caJ => k_is)
    (case cmJ => k_is)
    (case cn => k_is)
    (case ct => k_is)
    (case pgC => k_is)
    (case hdC => k_is)
    (case poC => k_is)
    (case saC => k_is)
    (case mkC => k_is)
    (case kcC => k_is)
    (case nC_row => k_is)
    (case nC_matrix => k_is)
    (case nC_scale => k_is)
    (case nC_four => k_is)
    (case kt_J => kit_is)
    (case sfC => k_is)
    (case rdC => k_is)
    (case gaC => k_is)
    (case a_JoinedRow_init => k_is)
    (case i_JoinedRow_init => k_is)
    (case l_JoinedRow_init => k_is)
    (case c_JoinedRow_init => k_is)
    (case k_JoinedRow_init => k_is)
    (case a_Pattern_init => k_is)
    (case i_Pattern_init => k_is)
    (case l_Pattern_init => k_is)
    (case c_Pattern_init => k_is)
    (case k_Pattern_init => k_is)
    (case a_Pattern_call => k_is)
    (case i_Pattern_call => k_is)
    (case l_Pattern_call => k_is)
    (case c_Pattern_call => k_is)
    (case k_Pattern_call => k_is)
    (case fi_call => k_is)
    (case a_Pattern_add => k_is)
    (case i_Pattern_add => k_is)
    (case l_Pattern_add => k_is)
    (case c_Pattern_add => k_is)
    (case k_Pattern_add => k_is)
    (case a_Pattern_eq => k_is)
    (case i_Pattern_eq => k_is)
    (case l_Pattern_eq => k_is)
    (case c_Pattern_eq => k_is)
    (case k_Pattern_eq => k_is)
    (case caC => k_is)
    (case cmC => k_is)
    (case sa_Pattern_read => k_is)
    (case sc_Pattern_read => k_is)
    (case l_Pattern_read => k_is)
    (case c_Pattern_read => k_is)
    (case k_Pattern_read => k_is)
    (case z_len => k_is)
    (case z_abs => k_is)
    (case z_int => k_is)
    (case z_bool => k_is)
    (case z_tuple => k_is)
    (case z_isinstance => k_is)
    (case z_divmod => k_is)
    (case z_max => k_is)
    (case z_min => k_is)
    (case z_range => k_is)
    (case z_all => k_is)
    (case z_repr => k_is)
    (case z_str => k_is)
    (case z_enumerate => k_is)
    (case a_is_integer => k_is)
    (case l_is_integer => k_is)
    (case c_is_integer => k_is)
    (case k_is_integer => k_is)
    (case a_is_integer_within => k_is)
    (case l_is_integer_within => k_is)
    (case c_is_integer_within => k_is)
    (case k_is_integer_within => k_is)
    (case a_is_pair_of_integers => k_is)
    (case l_is_pair_of_integers => k_is)
    (case c_is_pair_of_integers => k_is)
    (case k_is_pair_of_integers => k_is)
    (case a_is_resistance => k_is)
    (case l_is_resistance => k_is)
    (case c_is_resistance => k_is)
    (case k_is_resistance => k_is)
    (case a_pair_of => k_is)
    (case l_pair_of => k_is)
    (case c_pair_of => k_is)
    (case k_pair_of => k_is)
    (case a_common_divisor => k_is)
    (case l_common_divisor => k_is)
    (case c_common_divisor => k_is)
    (case k_common_divisor => k_is)
    (case a_lowest_terms => k_is)
    (case l_lowest_terms => k_is)
    (case c_lowest_terms => k_is)
    (case k_lowest_terms => k_is)
    (case a_lowest_pair => k_is)
    (case l_lowest_pair => k_is)
    (case c_lowest_pair => k_is)
    (case k_lowest_pair => k_is)
    (case a_is_piece => k_is)
    (case l_is_piece => k_is)
    (case c_is_piece => k_is)
    (case k_is_piece => k_is)
    (case a_checked_row => k_is)
    (case l_checked_row => k_is)
    (case c_checked_row => k_is)
    (case k_checked_row => k_is)
    (case a_matrix_and_scale => k_is)
    (case l_matrix_and_scale => k_is)
    (case c_matrix_and_scale => k_is)
    (case k_matrix_and_scale => k_is)
    (case a_shown_before => k_is)
    (case l_shown_before => k_is)
    (case c_shown_before => k_is)
    (case k_shown_before => k_is)
    (case a_piece_text => k_is)
    (case l_piece_text => k_is)
    (case c_piece_text => k_is)
    (case k_piece_text => k_is)
    (case a_piece_with_text => k_is)
    (case l_piece_with_text => k_is)
    (case c_piece_with_text => k_is)
    (case k_piece_with_text => k_is)
    (case a_law_cup => k_is)
    (case l_law_cup => k_is)
    (case c_law_cup => k_is)
    (case k_law_cup => k_is)
    (case a_law_sip => k_is)
    (case l_law_sip => k_is)
    (case c_law_sip => k_is)
    (case k_law_sip => k_is)
    (case a_law_pick => k_is)
    (case l_law_pick => k_is)
    (case c_law_pick => k_is)
    (case k_law_pick => k_is)
    (case aGP => k_is)
    (case aMS => k_is)
    (case pgCe => k_is)
    (case hdCe => k_is)
    (case poCe => k_is)
    (case saCe => k_is)
    (case mkCe => k_is)
    (case kcCe => k_is)
    (case nCe_parts => k_is)
    (case caCe => k_is)
    (case cmCe => k_is)
    (case pgCl => k_is)
    (case hdCl => k_is)
    (case poCl => k_is)
    (case saCl => k_is)
    (case mkCl => k_is)
    (case kcCl => k_is)
    (case nCl_section => k_is)
    (case nCl_behind => k_is)
    (case nCl_far => k_is)
    (case a_is_count => k_is)
    (case l_is_count => k_is)
    (case c_is_count => k_is)
    (case k_is_count => k_is)
    (case a_fraction_text => k_is)
    (case l_fraction_text => k_is)
    (case c_fraction_text => k_is)
    (case k_fraction_text => k_is)
    (case a_sign => k_is)
    (case l_sign => k_is)
    (case c_sign => k_is)
    (case k_sign => k_is)
    (case a_square_root => k_is)
    (case l_square_root => k_is)
    (case c_square_root => k_is)
    (case k_square_root => k_is)
    (case a_under_root => k_is)
    (case l_under_root => k_is)
    (case c_under_root => k_is)
    (case k_under_root => k_is)
    (case a_equation_of_fraction => k_is)
    (case l_equation_of_fraction => k_is)
    (case c_equation_of_fraction => k_is)
    (case k_equation_of_fraction => k_is)
    (case a_simplest_equation => k_is)
    (case l_simplest_equation => k_is)
    (case c_simplest_equation => k_is)
    (case k_simplest_equation => k_is)
    (case a_with_commas => k_is)
    (case l_with_commas => k_is)
    (case c_with_commas => k_is)
    (case k_with_commas => k_is)
    (case a_pair_order => k_is)
    (case l_pair_order => k_is)
    (case c_pair_order => k_is)
    (case k_pair_order => k_is)
    (case a_check_resistance => k_is)
    (case l_check_resistance => k_is)
    (case c_check_resistance => k_is)
    (case k_check_resistance => k_is)
    (case a_check_count => k_is)
    (case l_check_count => k_is)
    (case c_check_count => k_is)
    (case k_check_count => k_is)
    (case a_Exact_init => k_is)
    (case i_Exact_init => k_is)
    (case l_Exact_init => k_is)
    (case c_Exact_init => k_is)
    (case k_Exact_init => k_is)
    (case a_check_pattern => k_is)
    (case l_check_pattern => k_is)
    (case c_check_pattern => k_is)
    (case k_check_pattern => k_is)
    (case a_ladder_limit => k_is)
    (case l_ladder_limit => k_is)
    (case c_ladder_limit => k_is)
    (case k_ladder_limit => k_is)
    (case a_Ladder_init => k_is)
    (case i_Ladder_init => k_is)
    (case l_Ladder_init => k_is)
    (case c_Ladder_init => k_is)
    (case k_Ladder_init => k_is)
    (case a_Ladder_after => k_is)
    (case i_Ladder_after => k_is)
    (case l_Ladder_after => k_is)
    (case c_Ladder_after => k_is)
    (case k_Ladder_after => k_is)
    (case a_Ladder_call => k_is)
    (case i_Ladder_call => k_is)
    (case l_Ladder_call => k_is)
    (case c_Ladder_call => k_is)
    (case k_Ladder_call => k_is)
    (case fi_lcall => k_is)
    (case pa_Ladder_goes => k_is)
    (case pg_Ladder_goes => k_is)
    (case pt_Ladder_goes => k_is)
    (case pc_Ladder_goes => k_is)
    (case l_Ladder_goes => k_is)
    (case c_Ladder_goes => k_is)
    (case k_Ladder_goes => k_is)
    (case pa_Ladder_limit => k_is)
    (case pg_Ladder_limit => k_is)
    (case pt_Ladder_limit => k_is)
    (case pc_Ladder_limit => k_is)
    (case l_Ladder_limit => k_is)
    (case c_Ladder_limit => k_is)
    (case k_Ladder_limit => k_is)
    (case pa_Exact_equation => k_is)
    (case pg_Exact_equation => k_is)
    (case pt_Exact_equation => k_is)
    (case pc_Exact_equation => k_is)
    (case l_Exact_equation => k_is)
    (case c_Exact_equation => k_is)
    (case k_Exact_equation => k_is)
    (case pa_Exact_fraction => k_is)
    (case pg_Exact_fraction => k_is)
    (case pt_Exact_fraction => k_is)
    (case pc_Exact_fraction => k_is)
    (case l_Exact_fraction => k_is)
    (case c_Exact_fraction => k_is)
    (case k_Exact_fraction => k_is)
    (case a_law_row => k_is)
    (case l_law_row => k_is)
    (case c_law_row => k_is)
    (case k_law_row => k_is)
    (case a_law_words => k_is)
    (case l_law_words => k_is)
    (case c_law_words => k_is)
    (case k_law_words => k_is)
    (case a_law_read => k_is)
    (case l_law_read => k_is)
    (case c_law_read => k_is)
    (case k_law_read => k_is)
    (case n_at => k_is)
    (case n_sub => k_is)
    (case n_atE => k_is)
    (case n_subE => k_is)
    (case kt_E => kit_is)
    (case nf_E => k_is)
    (case a_Exact_eq => k_is)
    (case i_Exact_eq => k_is)
    (case l_Exact_eq => k_is)
    (case c_Exact_eq => k_is)
    (case k_Exact_eq => k_is)
    (case a_beside_fraction => k_is)
    (case l_beside_fraction => k_is)
    (case c_beside_fraction => k_is)
    (case k_beside_fraction => k_is)
    (case a_sign_along_line => k_is)
    (case l_sign_along_line => k_is)
    (case c_sign_along_line => k_is)
    (case k_sign_along_line => k_is)
    (case a_Exact_order => k_is)
    (case i_Exact_order => k_is)
    (case l_Exact_order => k_is)
    (case c_Exact_order => k_is)
    (case k_Exact_order => k_is)
    (case a_difference => k_is)
    (case l_difference => k_is)
    (case c_difference => k_is)
    (case k_difference => k_is)
    (case a_sign_at => k_is)
    (case l_sign_at => k_is)
    (case c_sign_at => k_is)
    (case k_sign_at => k_is)
    (case a_sign_far_out => k_is)
    (case l_sign_far_out => k_is)
    (case c_sign_far_out => k_is)
    (case k_sign_far_out => k_is)
    (case a_sign_from => k_is)
    (case l_sign_from => k_is)
    (case c_sign_from => k_is)
    (case k_sign_from => k_is)
    (case a_sign_towards => k_is)
    (case l_sign_towards => k_is)
    (case c_sign_towards => k_is)
    (case k_sign_towards => k_is)
    (case a_limit_beside => k_is)
    (case l_limit_beside => k_is)
    (case c_limit_beside => k_is)
    (case k_limit_beside => k_is)
    (case a_never_below => k_is)
    (case l_never_below => k_is)
    (case c_never_below => k_is)
    (case k_never_below => k_is)
    (case a_never_more => k_is)
    (case l_never_more => k_is)
    (case c_never_more => k_is)
    (case k_never_more => k_is)
    (case a_law_near => k_is)
    (case l_law_near => k_is)
    (case c_law_near => k_is)
    (case k_law_near => k_is)
    (case a_law_limits_right => k_is)
    (case l_law_limits_right => k_is)
    (case c_law_limits_right => k_is)
    (case k_law_limits_right => k_is)
    (case a_law_right => k_is)
    (case l_law_right => k_is)
    (case c_law_right => k_is)
    (case k_law_right => k_is)
    (case a_law => k_is)
    (case l_law => k_is)
    (case c_law => k_is)
    (case k_law => k_is)

