import PyProof.Rows.All
import Wide.All
import OpenK.AllK
import Wide.FinOn
import HandS.ForMost
import HandS.IsInst
import HandS.Wide
import HandS.WideBits
import HandS.MakeKwOnly
import HandS.SlotsOwn
import PyProof.ReprRoads
import HandS.Property
import HandS.FStr
import HandS.RaiseMore
import KE.KCallOwn
import PyProof.InstNe
import PyProof.ReprLen
import PyProof.Rows.ReprOcc
import HandS.Star
import HandS.ClsMeth
import HandS.Style
import HandS.TupAny
import HandS.Deep
import KE.KRevSl
import KE.GoesMore
import HandS.Iter
import HandS.Codes
import HandS.Exc
import KE.KExcInit
import HandS.ExcInit
import KE.KExcIs
import PyProof.CallFns
import PyProof.StrLawsRepr
import PyProof.EqLayable
import HandS.Dict
import HandS.HotCalls
import HandS.ExcInitHot
import HandS.Lambda
import HandS.Comp
import KE.KLam
import PyProof.NeData
import HandS.More
import HandS.CallLocal
import HandS.TupMul
import HandS.Flow
import PyProof.Rows.CountFlat
import HandS.SetFor
import HandS.Text
import PyProof.ExcBaseAll.LookupError
import PyProof.ExcBaseAll.ArithmeticError
import PyProof.ExcBaseAll.ValueError
import PyProof.InstStoreFacts
import HandS.EndTab
import KE.KNestM
import KE.KOpsOwn
import HandS.HeadHook3
import HandS.HeadHook4
import HandS.Head2
import PySem.Challenge.RW_rungladders_k78_patterns_and_limits_cert
set_option Elab.async false
set_option linter.all false
set_option maxRecDepth 100000
/-! Defs that are called where no repr is under way: repr of lists and tuples within them; == by an own __eq__. -/
namespace RL
open PySem L2 PySem.Spec PyProof.Rows
structure FnG (P : Program) (w : World) (K : PySem.W.Frag) (mg : Str → Option Value) (base : Heap) (k : Nat) (f : Addr) (fd : FuncData) (ps : List Str) (sp : Sp) : Prop where
  len : ∀ vs H Q E, sp vs H Q E → vs.length = ps.length
  run : ∀ (A : Around) (outer : List Env) (s : Shared) (H : Hp) (args : Args) (us : List Value) (vs : List V) (Q : VK) (E : XK), A.guards = some [] → Room k A → Env0 P w K mg base A outer s H → BindsTo s fd args (ps.zip us) → Vals vs us → sp vs H Q E →
    codeAny (model P w) A (.call (.ref f) args) (CR CX0 outer P w H s Q E) s
section
variable {P : Program} {w : World} {K : PySem.W.Frag} {mg : Str → Option Value} {base : Heap}
theorem okG {x qual : Str} {st : Stmt} {f : Addr} {fd : FuncData} {N ps : List Str} {k : Nat} {sp : Sp} (F : Fun K x qual st f fd) (S : FnScope N ps (defScope st)) (len : ∀ vs H Q E, sp vs H Q E → vs.length = ps.length)
    (bd : ∀ (cdv : Value) (A : Around) (outer : List Env) (s : Shared) (H : Hp) (vs : List V) (Q : VK) (E : XK), A.guards = some [] → Room k (A.deeper (envOfC qual (defScope st) s.heap.objs.size f cdv)) → sp vs H Q E →
      ∃ t, PSs (cxOf CX0 P w K mg base N qual (defScope st) f cdv A outer s H E).nox (defBody st) t ∧ t { nx := fun _ H' => Q .non H', rt := Q } (start N vs) H) : FnG P w K mg base (k + 1) f fd ps sp := by
  obtain ⟨oc, od, kV, doc, pm, an, cdv, ct, osl, rfl, lk, hcd⟩ := F.ex
  refine ⟨len, fun A outer s H args us vs Q E hg hr e0 hb r hsp => ?_⟩
  have KX : K.In s.heap := e0.mod.kin.keeps fun b o e => (e0.bs b o e).1
  have lim := e0.mod.nolimit.keeps fun b o e => (e0.bs b o e).1
  refine codeAny_call_function hr.depth (KX _ _ lk) rfl S.co S.gen rfl (PySem.W.codeRec_of KX hcd) (hb _ _ _ _ (wpAny_newFunctionEnv_cells S.kind (fun ⟨n, v⟩ hy => ?_) fun env he s1 x => ?_))
  · exact (S.par n (List.of_mem_zip hy).1).imp id fun q => ⟨q, PySem.W.cellsFrom_some _ _ _ (.inl q)⟩
  · subst he
    obtain ⟨t, ht, hq⟩ := bd cdv A outer s H vs Q E hg (hr.deeper _) hsp
    have I : Inv (cxOf CX0 P w K mg base N qual (defScope st) f cdv A outer s H E) [] (start N vs) H s1 := inv_start S hr.hd e0 (len _ _ _ _ hsp) r x
    refine ⟨lim.keeps x.toInCall.keep, codeAny_func (wpAny_mono (ht.nox.run [] s1 _ H _ I hq) (fun fl s' hs => ?_) fun _ _ z => z)⟩
    cases fl with
    | ret u =>
      obtain ⟨v, σ', H', J, rv, q⟩ := hs
      exact ⟨v, H', J.os, J.bare, J.base, J.hok, rv, q⟩
    | next =>
      obtain ⟨σ', H', J, q⟩ := hs
      exact ⟨V.non, H', J.os, J.bare, J.base, J.hok, rfl, q⟩
    | brk => exact hs.elim fun _ z => z.elim fun _ y => False.elim y.2
    | cont => exact hs.elim fun _ z => z.elim fun _ y => False.elim y.2
end
structure DfG (P : Program) (w : World) (K : PySem.W.Frag) (mg : Str → Option Value) (base : Heap) (k : Nat) (x : Str) (ps : List Str) (sp : Sp) : Prop where
  ex : ∃ (f : Addr) (fd : FuncData), FnG P w K mg base k f fd ps sp ∧ mg x = some (.ref f) ∧ PySem.W.keepIn K (.ref f) = true ∧ Binds K fd ps []
section
variable {X : Cx} {k : Nat} {ps : List Str} {sp : Sp} {x : Str} {p pos : Pos} {e : Expr} {es : List Expr} {t : TA}
theorem pe_dfG (D : DfG X.prog X.w X.K X.mg X.base k x ps sp) (hG : X.A.guards = some []) (hr : Room k X.A) (hg : Gl X x)
    (ha : PA X (e :: es) t) (hdb : (x == ("__debug__" : Str)) = false := by decide) (he : starEach (e :: es) X.env = (false, eval e X.env) :: starEach es X.env := by rfl) (hpl : (backTo pos (starEach es X.env)).any (·.1) = false := by rfl) :
    PE X (.Call (.Name x p) (e :: es) [] pos) (tCall sp [] E0 t) := by
  obtain ⟨f, fd, F, hm, hk, hb⟩ := D.ex
  refine ⟨fun pins s σ H Q I h => wpAny_Call_Name_kw (ld_glob I hg hm (PySem.W.callWith_K (h₀ := X.base) I.ok.mod.kin hk (thn (ha.run pos pins s σ H _ I h) fun us s1 ⟨vs, H1, I1, r, q⟩ => ⟨I1.kIn, ?_⟩) he hpl) hdb)⟩
  have q0 : sp vs H1 Q E0 := by
    have q1 : sp (vs ++ []) H1 Q E0 := q
    rw [List.append_nil] at q1
    exact q1
  have hl : (us ++ []).length = ps.length := by
    rw [List.append_nil, ← r.length]
    exact F.len _ _ _ _ q0
  have hbb := hb s1 us I1.kIn hl
  rw [List.append_nil] at hbb
  refine wpAny_call (codeAny_mono (F.run X.A X.stack s1 H1 ⟨us, []⟩ us vs Q E0 hG hr I1.env0 hbb r q0) fun z s' hq => ?_)
  cases z with
  | error e => exact hq.elim
  | ok fl =>
    cases fl with
    | ret u => exact I1.after hq
    | next => exact hq.elim
    | brk => exact hq.elim
    | cont => exact hq.elim
/-! ### repr of a list or tuple of plain things -/
def rRepr (K : PySem.W.Frag) : List V → Hp → VK → Prop := fun vs H Q => ∃ (a : Addr) (d : PyData), vs = [.ref a] ∧ Dp K H (.ref a) d ∧ d.showable = true ∧ d.hasDict = false ∧ d.depth ≤ 40 ∧ d.shown.length ≤ sizeLine ∧ Q (.str d.shown) H
theorem cr_repr (hG : X.A.guards = some []) (hu : X.A.units + 64 < cLine) : CallR X (.builtin "repr") (rRepr X.K) := by
  intro pins s σ H vs us Q I r h
  obtain ⟨a, d, rfl, hd, h1, h2, h3, h4, q⟩ := h
  obtain ⟨as, rd⟩ := Dp.reads I d _ (.ref a) hd rfl
  rw [Vals.ref1 r]
  refine repr_of_reads' (h₀ := s.heap) rd h1 (fun z => by rw [h2] at z; cases z) hG (by omega) (fun _ _ z => z) (fun h' u tk hk => ?_) h4
  exact ⟨.str d.shown, H, I.kept hk, ⟨_, rfl⟩, q⟩
/-! ### == by an own __eq__ -/
def rEqOwn (K : PySem.W.Frag) (C : Addr) (sp : Sp) : R2 := fun x y H Q => ∃ a dx fs ty, x = .ref a ∧ H a = some (.ins C dx fs) ∧ TyX K H y ty ∧ PySem.W.notFirst K C ty = true ∧ sp [x, y] H Q E0
theorem op_eqOwn {C g : Addr} {fd : FuncData} (hs : PySem.W.findIn X.K (.ref C) "__eq__" = some (some (.ref g))) (hf : PySem.W.isFn X.K (.ref g) = true) (F : FnOk X.prog X.w X.K X.mg X.base CX0 k g fd ps sp) (hb : Binds X.K fd ps []) (hr : Room k X.A) :
    OpR X (compareOp .Eq) (rEqOwn X.K C sp) := by
  intro pins s σ H x y v u Q I rx ry h
  obtain ⟨a, dx, fs, ty, rfl, ha, hy, hn, q⟩ := h
  cases (show v = Value.ref a from rx)
  obtain ⟨mA, O, _⟩ := ins_get I.hok ha
  obtain ⟨od, J, _⟩ := O.look
  obtain ⟨PH, Z, ph, _⟩ := kit_of I ry hy
  obtain ⟨m, hF⟩ := I.fr
  show wpAny _ _ (richCompare .Eq (.ref a) u) _ _ _
  refine PySem.W.cmp_K (op := .Eq) hr.units0 hF I.ok.mod.kin J (Z.ty _ _ I.kIn ph) hn hs hf ?_
  have q0 : sp ([.ref a, y] ++ []) H Q E0 := q
  refine wpAny_mono (run_fn (us := [.ref a, u]) (vs := [.ref a, y]) F hr hb .nil pass0 I (.cons rfl (.cons ry .nil)) q0) (fun w s' z => ?_) fun _ _ z => z
  obtain ⟨z', H', I', rz, qz⟩ := z
  exact SlX.cmpback rz ⟨z', H', I', rz, qz⟩
end
end RL

/-! The end of a law whose own def is promised where no repr is under way. -/
namespace RL
open PySem L2 PySem.Spec PyProof.Rows
end RL

/-! != of an own class with __eq__ alone; str and repr of its instances; a new one by keywords. -/
namespace RL
open PySem L2 PySem.Spec PyProof.Rows PySem.W Builtin
section
variable {prog : Program} {w : World} {A : Around} {E : Value → Shared → Prop} {s : Shared} {K : Frag} {x C L f : Addr} {h₀ : Heap} {m : Str → Option Value} {ox : Obj} {od : Option Obj} {b tb : Value}
end
section
variable {X : Cx} {k : Nat} {ps : List Str} {sp : Sp} {C g : Addr} {fd : FuncData}
def rNeOwn (K : PySem.W.Frag) (C : Addr) (sp : Sp) : R2 := fun x y H Q => ∃ a dx fs ty, x = .ref a ∧ H a = some (.ins C dx fs) ∧ TyX K H y ty ∧ PySem.W.notFirst K C ty = true ∧ sp [x, y] H (fun v H' => ∃ t, v = .bl t ∧ Q (.bl (!t)) H') E0
/-! ### str and repr of an instance -/
def rTextOwn (C : Addr) (sp : Sp) : List V → Hp → VK → Prop := fun vs H Q => ∃ a dx fs, vs = [.ref a] ∧ H a = some (.ins C dx fs) ∧ sp [.ref a] H (fun z H' => ∃ y : Str, z = .str y ∧ Q z H') E0
end
end RL

/-! The mathematics: whole roots, common divisors, the one equation of a number, its sign beside a fraction. -/
namespace RL
def Sm (n : Nat) (x : Int) : Prop := x.natAbs < 2 ^ n
theorem Sm.mono {m n : Nat} {x : Int} (h : Sm m x) (l : m ≤ n) : Sm n x := Nat.lt_of_lt_of_le h (Nat.pow_le_pow_right (by decide) l)
theorem Sm.mul {m n : Nat} {x y : Int} (h : Sm m x) (k : Sm n y) : Sm (m + n) (x * y) := by
  unfold Sm at *
  rw [Int.natAbs_mul, Nat.pow_add]
  exact Nat.mul_lt_mul'' h k
theorem Sm.add {n : Nat} {x y : Int} (h : Sm n x) (k : Sm n y) : Sm (n + 1) (x + y) := by
  unfold Sm at *
  rw [Nat.pow_succ]
  omega
theorem Sm.sub {n : Nat} {x y : Int} (h : Sm n x) (k : Sm n y) : Sm (n + 1) (x - y) := by
  unfold Sm at *
  rw [Nat.pow_succ]
  omega
theorem Sm.neg {n : Nat} {x : Int} (h : Sm n x) : Sm n (-x) := by
  unfold Sm at *
  omega
theorem Sm.of {n : Nat} {x y : Int} (h : Sm n y) (a : -y ≤ x) (b : x ≤ y) : Sm n x := by
  unfold Sm at *
  omega
theorem Sm.div {n : Nat} {x y : Int} (h : Sm n x) (hy : 0 < y) : Sm n (x / y) := by
  unfold Sm at *
  have h1 : (x / y).natAbs ≤ x.natAbs := by
    rcases Int.le_total 0 x with hx | hx
    · have := Int.ediv_le_self y hx
      have := Int.ediv_nonneg hx (Int.le_of_lt hy)
      omega
    · have h3 : x / y ≤ 0 := by
        have := Int.ediv_le_ediv hy hx
        simpa using this
      have h2 : x ≤ x / y := by
        have h4 : x * y ≤ x := by
          have q := Int.mul_nonneg (a := -x) (b := y - 1) (by omega) (by omega)
          have e : -x * (y - 1) = x - x * y := by grind
          omega
        exact (Int.le_ediv_iff_mul_le hy).mpr h4
      omega
  omega
theorem sm40 {x : Int} (a : -(10 ^ 40) ≤ x) (b : x ≤ 10 ^ 40) : Sm 133 x := by
  unfold Sm
  have : (10 : Int) ^ 40 < 2 ^ 133 := by decide
  have e : ((2 ^ 133 : Nat) : Int) = 2 ^ 133 := by decide
  omega
/-! ### whole roots -/
def IsRt (w r : Int) : Prop := 0 ≤ r ∧ r * r ≤ w ∧ w < (r + 1) * (r + 1)
theorem IsRt.le {w r s : Int} (h : IsRt w r) (k : IsRt w s) : r ≤ s := by
  obtain ⟨h0, h1, h2⟩ := h
  obtain ⟨k0, k1, k2⟩ := k
  rcases Int.lt_or_le s r with l | l
  · have : (s + 1) * (s + 1) ≤ r * r := Int.mul_le_mul (by omega) (by omega) (by omega) (by omega)
    omega
  · exact l
theorem IsRt.eq {w r s : Int} (h : IsRt w r) (k : IsRt w s) : r = s := Int.le_antisymm (h.le k) (k.le h)
def rtN : Nat → Nat
  | 0 => 0
  | n + 1 => if (rtN n + 1) * (rtN n + 1) ≤ n + 1 then rtN n + 1 else rtN n
theorem rtN_is : ∀ n, rtN n * rtN n ≤ n ∧ n < (rtN n + 1) * (rtN n + 1)
  | 0 => ⟨Nat.le_refl _, by decide⟩
  | n + 1 => by
    have ih := rtN_is n
    unfold rtN
    split
    · rename_i h
      refine ⟨h, ?_⟩
      have : (rtN n + 1 + 1) * (rtN n + 1 + 1) = (rtN n + 1) * (rtN n + 1) + 2 * (rtN n + 1) + 1 := by grind
      omega
    · rename_i h
      omega
def rt (w : Int) : Int := (rtN w.toNat : Int)
theorem rt_is {w : Int} (h : 0 ≤ w) : IsRt w (rt w) := by
  have k := rtN_is w.toNat
  have e : (w.toNat : Int) = w := Int.toNat_of_nonneg h
  refine ⟨Int.natCast_nonneg _, ?_, ?_⟩
  · have := Int.ofNat_le.mpr k.1
    rw [Int.natCast_mul, e] at this
    exact this
  · have := Int.ofNat_lt.mpr k.2
    rw [Int.natCast_mul, e, Int.natCast_add] at this
    exact this
theorem rt_of {w r : Int} (h : IsRt w r) : r = rt w := h.eq (rt_is (Int.le_trans (Int.mul_nonneg h.1 h.1) h.2.1))
theorem rt_sm {n : Nat} {w : Int} (h0 : 0 ≤ w) (h : Sm (2 * n) w) : Sm n (rt w) := by
  obtain ⟨a, b, _⟩ := rt_is h0
  unfold Sm at *
  refine Nat.lt_of_not_le fun q => ?_
  have e : (2 : Nat) ^ (2 * n) = 2 ^ n * 2 ^ n := by rw [← Nat.pow_add]; congr 1; omega
  have : 2 ^ n * 2 ^ n ≤ (rt w).natAbs * (rt w).natAbs := Nat.mul_le_mul q q
  have e2 : (rt w * rt w).natAbs = (rt w).natAbs * (rt w).natAbs := Int.natAbs_mul _ _
  have : (rt w * rt w).natAbs ≤ w.natAbs := by
    have := Int.mul_nonneg a a
    omega
  omega
theorem newton {n g : Int} (hn : 0 ≤ n) (hg : 0 ≤ g) (h : n < (g + 1) * (g + 1)) (l : n < g * g) :
    0 < g ∧ 0 ≤ (g + n / g) / 2 ∧ (g + n / g) / 2 < g ∧ n < ((g + n / g) / 2 + 1) * ((g + n / g) / 2 + 1) := by
  have g0 : 0 < g := by
    rcases Int.lt_or_le 0 g with q | q
    · exact q
    · have : g = 0 := by omega
      subst this
      omega
  have q0 : 0 ≤ n / g := Int.ediv_nonneg hn hg
  have q1 : n < g * (n / g + 1) := by
    have := Int.lt_mul_ediv_self_add (x := n) (k := g) g0
    rw [Int.mul_add, Int.mul_one]
    exact this
  have q2 : n / g < g := Int.ediv_lt_of_lt_mul g0 l
  generalize n / g = q at *
  have hm : g + q ≤ 2 * ((g + q) / 2) + 1 := by omega
  have h0 : 0 ≤ (g + q) / 2 := by omega
  have h1 : (g + q) / 2 < g := by omega
  generalize (g + q) / 2 = m at *
  refine ⟨g0, h0, h1, ?_⟩
  have a1 : (g + q + 1) * (g + q + 1) ≤ (2 * (m + 1)) * (2 * (m + 1)) := Int.mul_le_mul (by omega) (by omega) (by omega) (by omega)
  have a2 : 0 ≤ (g - q - 1) * (g - q - 1) := by
    rcases Int.le_total 0 (g - q - 1) with z | z
    · exact Int.mul_nonneg z z
    · exact Int.mul_nonneg_of_nonpos_of_nonpos z z
  have a3 : (g + q + 1) * (g + q + 1) = 4 * (g * (q + 1)) + (g - q - 1) * (g - q - 1) := by grind
  have a4 : (2 * (m + 1)) * (2 * (m + 1)) = 4 * ((m + 1) * (m + 1)) := by grind
  omega
/-! ### common divisors -/
def gc (a b : Int) : Int := (Int.gcd a b : Int)
theorem gc_pos {a b : Int} (h : a ≠ 0 ∨ b ≠ 0) : 0 < gc a b := by
  unfold gc
  have : 0 < Int.gcd a b := by
    rcases Nat.eq_zero_or_pos (Int.gcd a b) with z | z
    · rw [Int.gcd_eq_zero_iff] at z
      omega
    · exact z
  omega
theorem gc_dvd1 (a b : Int) : gc a b ∣ a := Int.gcd_dvd_left ..
theorem gc_dvd2 (a b : Int) : gc a b ∣ b := Int.gcd_dvd_right ..
theorem gc_zero {a : Int} (h : 0 ≤ a) : gc a 0 = a := by
  unfold gc
  rw [Int.gcd_zero_right]
  omega
theorem gc_step {a b : Int} (ha : 0 ≤ a) (hb : 0 < b) : gc b (a % b) = gc a b := by
  obtain ⟨n, rfl⟩ := Int.eq_ofNat_of_zero_le ha
  obtain ⟨m, rfl⟩ := Int.eq_ofNat_of_zero_le (Int.le_of_lt hb)
  unfold gc
  congr 1
  rw [← Int.natCast_emod, Int.gcd_natCast_natCast, Int.gcd_natCast_natCast, Nat.gcd_comm, ← Nat.gcd_rec, Nat.gcd_comm]
theorem gc_abs (a b : Int) : gc (if a < 0 then -a else a) (if b < 0 then -b else b) = gc a b := by
  unfold gc
  congr 1
  split <;> split <;> simp
theorem ex_mul {g a : Int} (h : g ∣ a) (hg : 0 < g) : a = g * (a / g) := (Int.mul_ediv_cancel' h).symm
/-! ### the one equation of a number -/
def Good (a b c : Int) : Prop := (a = 0 ∧ 1 ≤ b ∧ 0 ≤ c) ∨ (1 ≤ a ∧ 1 ≤ c)
structure Nrm (a b c s l w : Int) : Prop where
  good : Good s l w
  /-- the sign beside x / y -/
  sgn : ∀ x y : Int, 0 ≤ x → 1 ≤ y → (0 < w * y * y - l * x * y - s * x * x ↔ a * x * x + b * x * y - c * y * y < 0) ∧ (w * y * y - l * x * y - s * x * x = 0 ↔ a * x * x + b * x * y - c * y * y = 0)
theorem rt_gt {b t r : Int} (ht : 0 < t) (hr : 0 ≤ r) (e : b * b + t = r * r) : 0 < r + b ∧ 0 < r - b := by
  refine ⟨?_, ?_⟩
  · rcases Int.lt_or_le 0 (r + b) with z | z
    · exact z
    · have h1 : 0 ≤ (-b - r) * (-b + r) := Int.mul_nonneg (by omega) (by omega)
      have h2 : (-b - r) * (-b + r) = b * b - r * r := by grind
      omega
  · rcases Int.lt_or_le 0 (r - b) with z | z
    · exact z
    · have h1 : 0 ≤ (b - r) * (b + r) := Int.mul_nonneg (by omega) (by omega)
      have h2 : (b - r) * (b + r) = b * b - r * r := by grind
      omega
def parts (a b c : Int) : Int × Int × Int :=
  if a = 0 then (0, b / gc c b, c / gc c b)
  else if rt (b * b + 4 * a * c) * rt (b * b + 4 * a * c) = b * b + 4 * a * c then
    (0, 2 * a / gc (rt (b * b + 4 * a * c) - b) (2 * a), (rt (b * b + 4 * a * c) - b) / gc (rt (b * b + 4 * a * c) - b) (2 * a))
  else (a / gc (gc a b) c, b / gc (gc a b) c, c / gc (gc a b) c)
theorem inside_pos {a b c : Int} (h : 1 ≤ a ∧ 1 ≤ c) : 0 < 4 * a * c ∧ 0 ≤ b * b + 4 * a * c := by
  have hac : 0 < 4 * a * c := Int.mul_pos (by omega) (by omega)
  have hb : 0 ≤ b * b := by
    rcases Int.le_total 0 b with z | z
    · exact Int.mul_nonneg z z
    · exact Int.mul_nonneg_of_nonpos_of_nonpos z z
  omega
/-! ### beside a fraction -/
def sg (n : Int) : Int := if 0 < n then 1 else if n < 0 then -1 else 0
def side (a b c x y : Int) : Int := if y = 0 then -1 else sg (-(a * x * x + b * x * y - c * y * y))
def beside (s l w x y : Int) : Int := sg (w * y * y - l * x * y - s * x * x)
theorem Nrm.side {a b c s l w x y : Int} (h : Nrm a b c s l w) (hx : 0 ≤ x) (hy : 1 ≤ y) : beside s l w x y = RL.side a b c x y := by
  obtain ⟨k1, k2⟩ := h.sgn x y hx hy
  unfold beside RL.side sg
  rw [if_neg (show ¬ y = 0 by omega)]
  generalize w * y * y - l * x * y - s * x * x = u at *
  generalize a * x * x + b * x * y - c * y * y = v at *
  by_cases p : 0 < u
  · have := k1.mp p
    rw [if_pos p, if_pos (by omega)]
  · by_cases q : u = 0
    · have := k2.mp q
      rw [if_neg p, if_neg (by omega), if_neg (by omega), if_neg (by omega)]
    · have : ¬ v < 0 := fun z => p (k1.mpr z)
      have : ¬ v = 0 := fun z => q (k2.mpr z)
      rw [if_neg p, if_pos (by omega), if_neg (by omega), if_pos (by omega)]
/-! ### floors -/
def flo (s l w t : Int) : Int := if s = 0 then t * w / l else (rt (t * t * (l * l + 4 * s * w)) - t * l) / (2 * s)
end RL

/-! The order of two numbers: by the program's signs, and that unlike small ones differ within thirty figures. -/
namespace RL
def Fv (s l w x y : Int) : Int := w * y * y - l * x * y - s * x * x
/-! ### the program's order -/
def sal0 (s l w sl h : Int) : Int := if sl = 0 ∨ h < 0 then sg (-h) else beside s l w h sl
def sal (s l w sl h : Int) : Int := if sl < 0 then -(sal0 s l w (-sl) (-h)) else sal0 s l w sl h
def ord (s l w s' l' w' : Int) : Int := if s' = 0 then beside s l w w' l' else -(sal s' l' w' (l * s' - l' * s) (w * s' - w' * s))
/-! ### lowest terms, and one equation for one number -/
theorem gc_mul {k a b : Int} (hk : 0 ≤ k) : gc (k * a) (k * b) = k * gc a b := by
  unfold gc
  rw [Int.gcd_mul_left, Int.natCast_mul]
  congr 1
  omega
end RL

namespace RL
structure Tiny (a b c : Int) : Prop where
  good : Good a b c
  ha : a ≤ 60
  hb : -61 ≤ b ∧ b ≤ 61
  hc : c ≤ 60
theorem Tiny.nn {a b c : Int} (h : Tiny a b c) : 0 ≤ a ∧ 0 ≤ c := by
  rcases h.good with g | g <;> omega
theorem off {a b c n N : Int} (t : Tiny a b c) (hN : 1 ≤ N) (hn : 0 ≤ n) (h1 : 0 ≤ Fv a b c n N) (h2 : Fv a b c (n + 1) N < 0) : n ≤ 62 * N ∧ Fv a b c n N ≤ 8000 * N := by
  obtain ⟨a0, c0⟩ := t.nn
  have nb : n ≤ 62 * N := by
    refine Classical.byContradiction fun q => ?_
    have q' : 62 * N < n := by omega
    rcases t.good with ⟨rfl, b0, _⟩ | ⟨a1, c1⟩
    · have e : Fv 0 b c n N = N * (c * N - b * n) := by unfold Fv; grind
      have k1 : n ≤ b * n := by
        have := Int.mul_le_mul_of_nonneg_right (a := 1) (b := b) (c := n) b0 hn
        omega
      have k2 : c * N ≤ 60 * N := Int.mul_le_mul_of_nonneg_right t.hc (by omega)
      have := Int.mul_neg_of_pos_of_neg (a := N) (b := c * N - b * n) (by omega) (by omega)
      omega
    · have k1 : n * n ≤ a * (n * n) := by
        have := Int.mul_le_mul_of_nonneg_right (a := 1) (b := a) (c := n * n) a1 (Int.mul_nonneg hn hn)
        omega
      have k2 : -61 * (n * N) ≤ b * (n * N) := Int.mul_le_mul_of_nonneg_right t.hb.1 (Int.mul_nonneg hn (by omega))
      have k3 : c * (N * N) ≤ 60 * (N * N) := Int.mul_le_mul_of_nonneg_right t.hc (Int.mul_nonneg (by omega) (by omega))
      have k4 : 62 * N * N ≤ n * (n - 61 * N) := Int.mul_le_mul (by omega) (by omega) (by omega) hn
      have e1 : Fv a b c n N = c * (N * N) - b * (n * N) - a * (n * n) := by unfold Fv; grind
      have e2 : n * (n - 61 * N) = n * n - 61 * (n * N) := by grind
      have e3 : 62 * N * N = 62 * (N * N) := by grind
      have k5 : 0 < N * N := Int.mul_pos (by omega) (by omega)
      omega
  refine ⟨nb, ?_⟩
  have e : Fv a b c n N - Fv a b c (n + 1) N = a * (2 * n + 1) + b * N := by unfold Fv; grind
  have k1 : a * (2 * n + 1) ≤ 60 * (2 * n + 1) := Int.mul_le_mul_of_nonneg_right t.ha (by omega)
  have k2 : b * N ≤ 61 * N := Int.mul_le_mul_of_nonneg_right t.hb.2 (by omega)
  omega
end RL

namespace RL
abbrev ordP (p q : Int × Int × Int) : Int := ord p.1 p.2.1 p.2.2 q.1 q.2.1 q.2.2
def dueAt (a b c a' b' c' : Int) : List Nat → Int
  | [] => 0
  | n :: r => if flo a b c (10 ^ n) = flo a' b' c' (10 ^ n) then dueAt a b c a' b' c' r else if flo a b c (10 ^ n) < flo a' b' c' (10 ^ n) then -1 else 1
def dueV (a b c a' b' c' : Int) : Int := if parts a b c = parts a' b' c' then 0 else dueAt a b c a' b' c' [3, 12, 30]
/-! ### k + sqrt(k * k + 1) and sqrt(4 * k * k + 2) -/
/-! ### a number and a fraction -/
end RL

/-! The texts of numbers, and that repr of what is told fits. -/
namespace RL
open PySem L2
def ts (i : Int) : Str := Str.ofString (toString i)
structure OkT (n : Nat) (x : Str) : Prop where
  len : x.length ≤ n
  cps : ∀ c ∈ x.cps.toList, c < 16 ^ 8
theorem OkT.mono {m n : Nat} {x : Str} (h : OkT m x) (l : m ≤ n) : OkT n x := ⟨Nat.le_trans h.len l, h.cps⟩
theorem OkT.of (s : String) : OkT s.length (Str.ofString s) := by
  refine ⟨Nat.le_of_eq (ofString_length s), fun c hc => ?_⟩
  rw [PyProof.Rows.signs_ofString] at hc
  obtain ⟨ch, _, rfl⟩ := List.mem_map.mp hc
  have h1 : ch.toNat < 2 ^ 32 := ch.val.toNat_lt
  have h2 : (16 : Nat) ^ 8 = 2 ^ 32 := by decide
  omega
theorem OkT.app {m n : Nat} {x y : Str} (h : OkT m x) (k : OkT n y) : OkT (m + n) (x ++ y) := by
  refine ⟨?_, fun c hc => ?_⟩
  · rw [Str.length_append]
    have := h.len
    have := k.len
    omega
  · have e : (x ++ y).cps.toList = x.cps.toList ++ y.cps.toList := by
      show (x.cps ++ y.cps).toList = _
      rw [Array.toList_append]
    rw [e] at hc
    exact (List.mem_append.mp hc).elim (h.cps c) (k.cps c)
theorem log_sm {n : Nat} {i : Int} (hn : 0 < n) (h : Sm n i) : i.natAbs.log2 < n := PySem.Flt.log2_lt_of hn h
theorem ts_ok {i : Int} (h : Sm 200 i) : OkT 201 (ts i) := (OkT.of (toString i)).mono (int_text_length_le (by decide) (log_sm (by decide) h))
theorem show_int {i : Int} (h : Sm 200 i) : (PyData.int i).showable = true ∧ (PyData.int i).leavesShort 300 = true ∧ (PyData.int i).weight ≤ 200 := by
  have l := log_sm (by decide) h
  refine ⟨?_, ?_, ?_⟩
  · show decide (i.natAbs.log2 < 1920) = true
    exact decide_eq_true (by omega)
  · show decide ((PyData.shown (.int i)).length ≤ 300) = true
    refine decide_eq_true ?_
    have e : PyData.shown (.int i) = ts i := rfl
    rw [e]
    exact Nat.le_trans (ts_ok h).len (by decide)
  · show (if i == 0 then 0 else i.natAbs.log2 + 1) ≤ 200
    split <;> omega
theorem show_str {n : Nat} {x : Str} (h : OkT n x) : (PyData.str x).leavesShort 300 = true ∧ (PyData.str x).weight ≤ n := by
  refine ⟨?_, h.len⟩
  show (x.cps.toList.all fun c => decide (c < 16 ^ 8)) = true
  rw [List.all_eq_true]
  exact fun c hc => decide_eq_true (h.cps c hc)
structure Shows (d : PyData) : Prop where
  s : d.showable = true
  n : d.hasDict = false
  p : d.depth ≤ 40
  l : d.shown.length ≤ sizeLine
/-! ### the texts -/
def commas (a b c : Int) : Str := ts a ++ ", " ++ ts b ++ ", " ++ ts c
def ftext (t b : Int) : Str := if b = 1 then ts t else ts t ++ "/" ++ ts b
def xtext (s l w : Int) : Str := if s = 0 then ftext w l else "root of " ++ commas s l w
def rtext (s l w : Int) : Str := "Exact(" ++ commas s l w ++ ")"
theorem OkT.fits {n : Nat} {x : Str} (h : OkT n x) (l : n ≤ 100000 := by decide) : x.length ≤ sizeLine := by
  have := h.len
  rw [sizeLine_eq]
  omega
end RL

set_option maxHeartbeats 1000000
/-! Further rules: o.f as a target within a tuple; an own binary operator; a static method read off its class; an instance called by keyword; t[::-1] of a tuple; x in a tuple of data. -/
namespace RL
open PySem L2 PySem.Spec PyProof.Rows PySem.W
section
variable {X : Cx}
def gFld (K : PySem.W.Frag) (ta : TE) (f : Str) : TG := fun v σ H Q => ta σ H fun x H1 => ∃ a C dx fs, x = .ref a ∧ H1 a = some (.ins C dx fs) ∧ Cls K C ∧ NoAttr K C f ∧ fs.length < 1000 ∧ Q σ (upd H1 a (.ins C dx (putF f v fs)))
theorem pg_fld {o : Expr} {f : Str} {pos : Pos} {ta : TE} (ho : PE X o ta) (ha : ∀ v, assign (.Attribute o f pos) X.env v = (do
      let ov ← holding [v] (eval o X.env)
      standAt pos.atName
      holding [v, ov] (setAttr ov f v)
      release [v, ov] []) := by intro _; rfl) : PG X (.Attribute o f pos) (gFld X.K ta f) := by
  refine ⟨fun pins s σ H v u Q I r h => ?_⟩
  rw [ha]
  refine wpAny_bind (wpAny_holding (thn (ho.run pins s σ H _ I h) fun ov s1 ⟨x, H1, I1, r1, a, C, dx, fs, ex, ea, c, n, l, q⟩ => ?_))
  subst ex
  obtain rfl : ov = Value.ref a := r1
  refine wpAny_bind (wpAny_standAt (wpAny_bind (wpAny_holding (setattr_ok I1 ea c n l r fun s2 I2 => ?_))))
  exact wpAny_release ⟨σ, _, I2, q⟩
end
/-! ### an own binary operator -/
section
variable {X : Cx} {k : Nat} {ps : List Str} {sp : Sp} {C g : Addr} {fd : FuncData}
def rBinOwn (C : Addr) (sp : Sp) : R2 := fun x y H Q => ∃ a dx fs b dy gs, x = .ref a ∧ H a = some (.ins C dx fs) ∧ y = .ref b ∧ H b = some (.ins C dy gs) ∧ sp [x, y] H Q E0
end
/-! ### C.m(..), m a static method -/
structure SMet (K : PySem.W.Frag) (C : Addr) (mc : Value) (m : Str) (p g : Addr) : Prop where
  at_ : PySem.W.findCls K (.ref C) mc m = some (.get (.builtin "staticmethod.__get__") (.ref p) .none (.ref C))
  rc : ∃ rest, PySem.W.recIn K p "staticmethod" = some (.ref g :: rest)
  kp : PySem.W.keepIn K (.ref g) = true
def tSMeth (C : Addr) (sp : Sp) (ta : TE) (t : TA) : TE := fun σ H Q => ta σ H fun x H1 => x = .ref C ∧ t σ H1 fun vs H2 => sp vs H2 Q E0
section
variable {X : Cx} {k : Nat} {ps : List Str} {C p g : Addr} {mc : Value} {sp : Sp} {fd : FuncData} {o e : Expr} {es : List Expr} {m : Str} {pos apos : Pos} {ta : TE} {t : TA} {pl : Sem Bool}
theorem pe_smeth (he : PE X o ta) (r : ClX.CRead X.K C mc) (c : SMet X.K C mc m p g) (F : FnOk X.prog X.w X.K X.mg X.base CX0 k g fd ps sp) (hb : Binds X.K fd ps []) (hr : Room k X.A) (ha : PA X (e :: es) t)
    (hst : starEach (e :: es) X.env = (false, eval e X.env) :: starEach es X.env := by rfl) (hpl : (backTo pos (starEach es X.env)).any (·.1) = false := by rfl)
    (ht : eval (.Call (.Attribute o m apos) (e :: es) [] pos) X.env = (do
      let ov ← eval o X.env
      standAt apos.atName
      let (f, first) ← holding [ov] (getMethod ov m pl)
      callWith pos f first (backTo pos (starEach (e :: es) X.env)) (backToKw pos (keywordEach [] X.env))) := by rfl) :
    PE X (.Call (.Attribute o m apos) (e :: es) [] pos) (tSMeth C sp ta t) := by
  refine ⟨fun pins s σ H Q I h => ?_⟩
  refine PySem.W.methodCall_KW (pl := pl) (thn (he.run pins s σ H _ I h) fun u s1 ⟨x, H1, I1, rx, ex, q⟩ => ?_) ht
  subst ex
  obtain rfl : u = Value.ref C := rx
  obtain ⟨rest, hp⟩ := c.rc
  refine PySem.W.method_cls I1.kIn r.ga (PySem.W.cls_bind I1.kIn r.rd c.at_ (wpAny_call (PySem.W.sm_get (s := { s1 with toks := s1.toks + 1 }) I1.kIn hp (PySem.W.handed_on rfl ?_))))
  have I2 := I1.tok (s1.toks + 1)
  refine PySem.W.callWith_K (first := []) (h₀ := X.base) I.ok.mod.kin c.kp (thn (ha.run pos pins _ σ H1 _ I2 q) fun us s2 ⟨vs, H2, I3, rv, q2⟩ => ⟨I3.kIn, ?_⟩) hst hpl
  have q0 : sp (vs ++ []) H2 Q E0 := by
    rw [List.append_nil]
    exact q2
  exact run_fn (us := us) F hr hb .nil pass0 I3 rv q0
end
/-! ### an instance called by one keyword -/
section
variable {X : Cx} {k : Nat} {C g : Addr} {sp : Sp} {fd : FuncData} {fe e : Expr} {es : List Expr} {pos kpos : Pos} {p1 kw : Str} {tf : TE} {tk : TA} {t : TA}
def tCallOK (X : Cx) (C : Addr) (sp : Sp) (tf : TE) (tk : TA) : TE := fun σ H Q => tf σ H fun y H1 => ∃ a, y = V.ref a ∧ tk σ H1 fun vs H2 => (∃ dx fs, H2 a = some (.ins C dx fs)) ∧ sp (V.ref a :: vs) H2 Q E0
end
/-! ### t[::-1] -/
section
variable {prog : Program} {w : World} {A : Around} {E : Value → Shared → Prop} {s : Shared}
open HT
theorem sliceApplied_rev {sl : Addr} {vl vu vs : Value} {n : Nat} {Q : Int × Int × Nat → Shared → Prop} (hs : s.heap.IsSliceOf sl vl vu vs) (pl : IsPart vl none) (pu : IsPart vu none) (ps : IsPart vs (some (-1)))
    (h : Q ((n : Int) - 1, -1, n) s) : wpAny (model prog w) A (Builtin.Slice.sliceApplied (.ref sl) (pure (n : Int))) Q E s := by
  obtain ⟨os, hos, hcs, hds⟩ := id hs
  unfold Builtin.Slice.sliceApplied Builtin.Slice.sliceFields
  refine wpAny_bind (wpAny_bind (wpAny_field hos hds (x := vl) rfl (wpAny_bind (wpAny_field hos hds (x := vu) rfl (wpAny_bind (wpAny_field hos hds (x := vs) rfl (wpAny_pure ?_)))))))
  refine wpAny_bind (slicePart_ ps ?_)
  show wpAny _ _ (if ((-1 : Int) == 0) = true then _ else _) _ _ s
  rw [if_neg (by decide)]
  refine wpAny_bind (slicePart_ pl (wpAny_bind (slicePart_ pu (wpAny_bind (wpAny_pure ?_)))))
  show wpAny _ _ (match Builtin.Slice.sliceAdjust none none (-1) (n : Int) with | (lo, hi) => pure (lo, (-1 : Int), Builtin.Slice.slicePlaces lo hi (-1))) _ _ s
  have e1 : Builtin.Slice.sliceAdjust none none (-1) (n : Int) = ((n : Int) - 1, -1) := rfl
  rw [e1]
  have e2 : Builtin.Slice.slicePlaces ((n : Int) - 1) (-1) (-1) = n := by
    unfold Builtin.Slice.slicePlaces
    rw [if_neg (by decide)]
    split
    · rw [show (-(-1 : Int)) = 1 by decide, Int.ediv_one]
      omega
    · omega
  show wpAny _ _ (pure ((n : Int) - 1, (-1 : Int), Builtin.Slice.slicePlaces ((n : Int) - 1) (-1) (-1))) _ _ s
  rw [e2]
  exact wpAny_pure h
theorem fm_congr {α β : Type} {f g : α → Option β} : ∀ {l : List α}, (∀ a ∈ l, f a = g a) → l.filterMap f = l.filterMap g
  | [], _ => rfl
  | a :: l, h => by
    rw [List.filterMap_cons, List.filterMap_cons, h a List.mem_cons_self, fm_congr fun b hb => h b (List.mem_cons_of_mem _ hb)]
theorem pick_rev (xs : Array Value) : ((List.range xs.size).filterMap fun (m : Nat) => xs[(((xs.size : Int) - 1) + (m : Int) * (-1)).toNat]?).toArray = xs.toList.reverse.toArray := by
  have e : ∀ m ∈ List.range xs.size, xs[(((xs.size : Int) - 1) + (m : Int) * (-1)).toNat]? = xs[xs.size - 1 - m]? := fun m hm => by
    have : m < xs.size := List.mem_range.mp hm
    have : (((xs.size : Int) - 1) + (m : Int) * (-1)).toNat = xs.size - 1 - m := by omega
    rw [this]
  rw [fm_congr e]
  have e3 : (List.range xs.size).filterMap (fun m => xs[xs.size - 1 - m]?) = ((List.range xs.size).map fun k => xs.size - 1 - k).filterMap (xs[·]?) := by
    rw [List.filterMap_map]
    rfl
  rw [e3, PySem.W.krv_range, List.filterMap_reverse, PySem.W.krv_all]
theorem getItem_tuple_rev {t sl : Addr} {items : Array Value} {vl vu vs : Value} {Q : Value → Shared → Prop} (ht : IsTup s.heap t items) (hs : s.heap.IsSliceOf sl vl vu vs) (pl : IsPart vl none) (pu : IsPart vu none) (ps : IsPart vs (some (-1)))
    (h : Q (.ref s.heap.objs.size) { s with heap := s.heap.push { cls := .type "tuple", data := .seq items.toList.reverse.toArray } })
    (hsz : items.size ≤ sizeLine) : wpAny (model prog w) A (getItem (.ref t) (.ref sl)) Q E s := by
  have htake : sizeOk (.seq items.toList.reverse.toArray) := by
    show items.toList.reverse.toArray.size ≤ sizeLine
    rw [List.size_toArray, List.length_reverse, Array.length_toList]
    exact hsz
  obtain ⟨os, hos, hcs, hds⟩ := id hs
  have hTs : s.TypeIs (.ref sl) "slice" := ⟨os, hos, hcs⟩
  unfold getItem
  try with_reducible refine wpAny_holding ?_
  first | refine wpAny_bind (wpAny_pure ?_) | skip
  refine wpAny_bind (wpAny_sequenceKey ht.typeIs (by decide) ?_)
  refine wpAny_bind (wpAny_callSpecial?_slot (name := Str.ofString "__getitem__") ht.typeIs PyProof.Rows.slot_tuple_getitem
    (wpAny_call_entry PyProof.Rows.slot_tuple_getitem ht.typeIs entry_tuple_getitem ?_ (args_tuple_getitem _ _)))
  show wpAny _ _ (Builtin.Tuple.tupleItemsOf (.ref t) >>= _) _ _ s
  refine wpAny_bind (tupleItemsOf_ ht ?_)
  refine wpAny_bind (wpAny_typeOf hTs ?_)
  rw [if_pos (by decide)]
  refine wpAny_bind (sliceApplied_rev hs pl pu ps ?_)
  show wpAny _ _ (if ((((items.size : Int) - 1) == 0 && (-1 : Int) == 1 && items.size == items.size) = true) then _ else _) _ _ s
  rw [if_neg (by rw [show ((-1 : Int) == 1) = false by decide, Bool.and_false, Bool.false_and]; exact Bool.false_ne_true), pick_rev]
  first
    | exact wpAny_bind (m := Builtin.Tuple.tupleExact _) (wpAny_newObj_type (wpAny_pure ⟨_, rfl, wpAny_pure h⟩) htake)
    | exact wpAny_bind (m := Builtin.Tuple.tupleExact _) (wpAny_newObj_type (wpAny_bind (wpAny_pure (wpAny_pure ⟨_, rfl, wpAny_pure h⟩))) htake)
    | exact wpAny_bind (wpAny_bind (m := Builtin.Tuple.tupleExact _) (wpAny_newObj_type (wpAny_pure (wpAny_pure ⟨_, rfl, wpAny_pure h⟩)) htake))
    | exact wpAny_bind (wpAny_bind (m := Builtin.Tuple.tupleExact _) (wpAny_newObj_type (wpAny_pure ⟨_, rfl, wpAny_pure h⟩) htake))
end
section
variable {X : Cx}
def tRevT (K : PySem.W.Frag) (te : TE) : TE := fun σ H Q => te σ H fun x H1 => ∃ a xs, x = .ref a ∧ SqT K H1 a xs ∧ ∀ p, H1 p = none → Q (.ref p) (upd H1 p (.tup xs.reverse))
theorem pe_revT {e : Expr} {te : TE} {k : Nat} {p1 p2 p3 pos : Pos} (he : PE X e te) : PE X (.Subscript e (.Slice none none (some (.UnaryOp .USub (.Constant (.int 1) k p1) p2)) p3) pos) (tRevT X.K te) := by
  refine ⟨fun pins s σ H Q I h => ?_⟩
  refine Subscript_ (thn (he.run pins s σ H _ I h) fun v s1 ⟨x, H1, I1, r1, q1⟩ => ?_)
  obtain ⟨a, xs, ex, hx, q⟩ := q1
  subst ex
  cases r1
  have hst : PO X (some (.UnaryOp .USub (.Constant (.int 1) k p1) p2)) (tPart (tUn (rU fun i => .int (-i)) (tC (.int 1)))) := po_some (pe_un un_neg pe_int)
  refine wpAny_Slice (thn (po_none.run pins s1 σ H1 (fun o H2 => o = none ∧ H2 = H1) I1 ⟨rfl, rfl⟩) fun vl s2 ⟨l, H2, I2, pl, el, e2⟩ => ?_)
  subst el e2
  refine thn (po_none.run pins s2 σ H2 (fun o H3 => o = none ∧ H3 = H2) I2 ⟨rfl, rfl⟩) fun vu s3 ⟨u, H3, I3, pu, eu, e3⟩ => ?_
  subst eu e3
  refine thn (hst.run pins s3 σ H3 (fun o H4 => o = some (-1) ∧ H4 = H3) I3 ⟨1, rfl, -1, rfl, rfl, rfl⟩) fun vs s4 ⟨o, H4, I4, ps, eo, e4⟩ => ?_
  subst eo e4
  have I5 : Inv X pins σ H4 { s4 with heap := s4.heap.push { cls := .type "slice", data := .fields #[vl, vu, vs] } } := I4.kept (t' := s4.toks) fun b ob q => Heap.get?_push_of_some _ q
  obtain ⟨its, r, ht, hz⟩ := I5.tuple hx
  have hlen := r.length
  show wpAny (model X.prog X.w) X.A (subscriptTail e (.Slice none none (some (.UnaryOp .USub (.Constant (.int 1) k p1) p2)) p3) (.ref a) (.ref s4.heap.objs.size)) (EP X pins σ Q) X.xe { s4 with heap := s4.heap.push { cls := .type "slice", data := .fields #[vl, vu, vs] } }
  refine tail_any (ops := [.ref a, .ref s4.heap.objs.size]) ht.typeIs PyProof.Rows.slot_tuple_getitem.lookup ?_ (by with_unfolding_all rfl)
  refine getItem_tuple_rev ht (Heap.IsSliceOf.new _ vl vu vs) pl pu ps ?_ (by rw [List.size_toArray]; omega)
  refine ⟨.ref _, _, I5.laid (t' := s4.toks) (o := .tup xs.reverse) (fun b ob q => Heap.get?_push_of_some _ q) (Nat.le_refl _) ?_, rfl, q _ (I5.hok.fresh (Nat.le_refl _))⟩
  exact ⟨by rw [List.length_reverse]; exact hz, _, r.reverse, IsTup.new _ _⟩
/-! ### x in a tuple of data -/
def rInT (K : PySem.W.Frag) : R2 := fun x y H Q => ∃ d ds, Dp K H x d ∧ Dp K H y (.tuple ds) ∧ SeqAt.shaped d = true ∧ SeqAt.shaped (.tuple ds) = true ∧ Q (.bl (ds.any fun z => PyData.eqv z d)) H
theorem op_inT (hu : X.A.units + 65 < cLine) : OpR X (compareOp .In) (rInT X.K) := by
  intro pins s σ H x y v u Q I rx ry h
  obtain ⟨d, ds, hd, he, sd, se, q⟩ := h
  obtain ⟨as, r1⟩ := Dp.reads I d x v hd rx
  obtain ⟨bs, r2⟩ := Dp.reads I (.tuple ds) y u he ry
  exact SeqAt.in_tuple_reads r2 r1 (SeqAt.canLay_of_shaped se) (SeqAt.canLay_of_shaped sd) (room_in_shaped sd hu) ⟨.bl _, H, I, rfl, q⟩
end
end RL

/-! The mathematics of rows of pieces: their maps, what they show. -/
namespace RL
abbrev Pc := Bool × Int
def PcOk (p : Pc) : Prop := 1 ≤ p.2 ∧ p.2 ≤ 12
structure Mx where
  a : Int
  b : Int
  c : Int
  d : Int
def stepM (m : Mx) (p : Pc) : Mx := if p.1 = true then ⟨m.a, m.a * p.2 + m.b, m.c, m.c * p.2 + m.d⟩ else ⟨m.a * p.2 + m.b, m.b * p.2, m.c * p.2 + m.d, m.d * p.2⟩
def stepS (s : Int) (p : Pc) : Int := if p.1 = true then s else s * p.2
def m1 : Mx := ⟨1, 0, 0, 1⟩
def matR (r : List Pc) : Mx := r.foldl stepM m1
def sclR (r : List Pc) : Int := r.foldl stepS 1
def Mx.app (m : Mx) (e : Int × Int) : Int × Int := (m.a * e.1 + m.b * e.2, m.c * e.1 + m.d * e.2)
def act (p : Pc) (e : Int × Int) : Int × Int := if p.1 = true then (e.1 + p.2 * e.2, e.2) else (p.2 * e.1, e.1 + p.2 * e.2)
def actR (r : List Pc) (e : Int × Int) : Int × Int := r.foldr act e
theorem app_step (m : Mx) (p : Pc) (e : Int × Int) : (stepM m p).app e = m.app (act p e) := by
  unfold stepM act Mx.app
  split <;> (ext <;> dsimp <;> grind)
theorem app_fold (r : List Pc) : ∀ (m : Mx) (e : Int × Int), (r.foldl stepM m).app e = m.app (actR r e) := by
  induction r with
  | nil => exact fun _ _ => rfl
  | cons p r ih =>
    intro m e
    rw [List.foldl_cons, ih, app_step]
    rfl
theorem app_one (e : Int × Int) : m1.app e = e := by
  unfold Mx.app m1
  ext <;> dsimp <;> omega
theorem mat_app (r : List Pc) (e : Int × Int) : (matR r).app e = actR r e := by
  unfold matR
  rw [app_fold, app_one]
def Pos2 (e : Int × Int) : Prop := 0 ≤ e.1 ∧ 0 ≤ e.2 ∧ (0 < e.1 ∨ 0 < e.2)
def sc (k : Int) (e : Int × Int) : Int × Int := (k * e.1, k * e.2)
def RowOk (r : List Pc) : Prop := ∀ p ∈ r, PcOk p
theorem RowOk.tail {p : Pc} {r : List Pc} (h : RowOk (p :: r)) : RowOk r := fun q hq => h q (List.mem_cons_of_mem _ hq)
theorem RowOk.head {p : Pc} {r : List Pc} (h : RowOk (p :: r)) : PcOk p := h p List.mem_cons_self
theorem RowOk.app {r r' : List Pc} (h : RowOk r) (h' : RowOk r') : RowOk (r ++ r') := fun q hq => (List.mem_append.mp hq).elim (h q) (h' q)
def frt (p : Pc) (e : Int × Int) : Int × Int := if p.1 = true then (e.1 + p.2 * e.2, e.2) else if e.2 = 0 then (p.2, 1) else (p.2 * e.1, p.2 * e.2 + e.1)
def frtR (r : List Pc) (e : Int × Int) : Int × Int := r.foldr frt e
/-! ### lowest terms -/
def low (e : Int × Int) : Int × Int := (e.1 / gc e.1 e.2, e.2 / gc e.1 e.2)
theorem gc_pos2 {e : Int × Int} (h : Pos2 e) : 0 < gc e.1 e.2 := gc_pos (by have := h.2.2; omega)
theorem gc_sm {t b : Int} {n : Nat} (h : Pos2 (t, b)) (ht : Sm n t) (hb : Sm n b) : Sm n (gc t b) := by
  have g0 : 0 < gc t b := gc_pos2 h
  rcases h.2.2 with z | z
  · have := Int.le_of_dvd z (gc_dvd1 t b)
    exact ht.of (by omega) this
  · have := Int.le_of_dvd z (gc_dvd2 t b)
    exact hb.of (by omega) this
theorem low_sc {k : Int} (hk : 0 < k) (e : Int × Int) : low (sc k e) = low e := by
  unfold low sc
  dsimp
  rw [gc_mul (Int.le_of_lt hk), Int.mul_ediv_mul_of_pos _ _ hk, Int.mul_ediv_mul_of_pos _ _ hk]
theorem low_is {e : Int × Int} (h : Pos2 e) : e = sc (gc e.1 e.2) (low e) := by
  unfold low sc
  ext
  · exact ex_mul (gc_dvd1 _ _) (gc_pos2 h)
  · exact ex_mul (gc_dvd2 _ _) (gc_pos2 h)
theorem pos_sc {k : Int} {e : Int × Int} (hk : 0 < k) (h : Pos2 (sc k e)) : Pos2 e := by
  unfold sc Pos2 at h
  obtain ⟨a, b, c⟩ := h
  have t1 : ∀ x : Int, 0 ≤ k * x → 0 ≤ x := fun x hx => by
    rcases Int.lt_or_le x 0 with z | z
    · have := Int.mul_neg_of_pos_of_neg hk z
      omega
    · exact z
  have t2 : ∀ x : Int, 0 < k * x → 0 < x := fun x hx => by
    rcases Int.lt_or_le 0 x with z | z
    · exact z
    · have := Int.mul_nonpos_of_nonneg_of_nonpos (Int.le_of_lt hk) z
      omega
  exact ⟨t1 _ a, t1 _ b, c.imp (t2 _) (t2 _)⟩
theorem low_pos {e : Int × Int} (h : Pos2 e) : Pos2 (low e) := pos_sc (gc_pos2 h) (by rw [← low_is h]; exact h)
theorem low_low {e : Int × Int} (h : Pos2 e) : low (low e) = low e := by
  have := low_sc (gc_pos2 h) (low e)
  rw [← low_is h] at this
  exact this.symm
/-! ### the four fractions -/
/-! ### signs and sizes -/
def MxOk (m : Mx) : Prop := 0 ≤ m.a ∧ 0 ≤ m.b ∧ 0 ≤ m.c ∧ 0 ≤ m.d ∧ 0 < m.a * m.d - m.b * m.c
theorem step_ok {m : Mx} {p : Pc} (hp : PcOk p) (h : MxOk m) : MxOk (stepM m p) := by
  obtain ⟨h1, h2, h3, h4, h5⟩ := h
  have q0 : 0 ≤ p.2 := by have := hp.1; omega
  have z1 := Int.mul_nonneg h1 q0
  have z2 := Int.mul_nonneg h2 q0
  have z3 := Int.mul_nonneg h3 q0
  have z4 := Int.mul_nonneg h4 q0
  unfold stepM MxOk
  split
  · dsimp
    refine ⟨h1, by omega, h3, by omega, ?_⟩
    have : m.a * (m.c * p.2 + m.d) - (m.a * p.2 + m.b) * m.c = m.a * m.d - m.b * m.c := by grind
    omega
  · dsimp
    refine ⟨by omega, by omega, by omega, by omega, ?_⟩
    have : (m.a * p.2 + m.b) * (m.d * p.2) - m.b * p.2 * (m.c * p.2 + m.d) = p.2 * p.2 * (m.a * m.d - m.b * m.c) := by grind
    rw [this]
    have q1 : 0 < p.2 := by have := hp.1; omega
    exact Int.mul_pos (Int.mul_pos q1 q1) h5
theorem fold_ok {r : List Pc} : ∀ {m : Mx}, RowOk r → MxOk m → MxOk (r.foldl stepM m) := by
  induction r with
  | nil => exact fun _ h => h
  | cons p r ih => exact fun hr h => ih hr.tail (step_ok hr.head h)
theorem matR_ok {r : List Pc} (hr : RowOk r) : MxOk (matR r) := fold_ok hr ⟨by decide, by decide, by decide, by decide, by decide⟩
theorem scl_fold {r : List Pc} : ∀ {s : Int}, RowOk r → 0 < s → 0 < r.foldl stepS s := by
  induction r with
  | nil => exact fun _ h => h
  | cons p r ih =>
    intro s hr h
    refine ih hr.tail ?_
    unfold stepS
    split
    · exact h
    · exact Int.mul_pos h (by have := hr.head.1; omega)
theorem sclR_pos {r : List Pc} (hr : RowOk r) : 0 < sclR r := scl_fold hr (by decide)
def MxSm (n : Nat) (m : Mx) : Prop := Sm n m.a ∧ Sm n m.b ∧ Sm n m.c ∧ Sm n m.d
theorem ohm_sm {p : Pc} (hp : PcOk p) : Sm 4 p.2 := by
  obtain ⟨h1, h2⟩ := hp
  unfold Sm
  omega
theorem step_sm {m : Mx} {p : Pc} {n : Nat} (hp : PcOk p) (h : MxSm n m) : MxSm (n + 5) (stepM m p) := by
  obtain ⟨h1, h2, h3, h4⟩ := h
  have o := ohm_sm hp
  have up : ∀ {x : Int}, Sm n x → Sm (n + 4) x := fun z => z.mono (by omega)
  unfold stepM MxSm
  split
  · exact ⟨h1.mono (by omega), (h1.mul o).add (up h2), h3.mono (by omega), (h3.mul o).add (up h4)⟩
  · exact ⟨(h1.mul o).add (up h2), (h2.mul o).mono (by omega), (h3.mul o).add (up h4), (h4.mul o).mono (by omega)⟩
theorem fold_sm {r : List Pc} : ∀ {m : Mx} {n : Nat}, RowOk r → MxSm n m → MxSm (n + 5 * r.length) (r.foldl stepM m) := by
  induction r with
  | nil => exact fun _ h => h
  | cons p r ih =>
    intro m n hr h
    have := ih hr.tail (step_sm hr.head h)
    rw [List.foldl_cons, List.length_cons]
    have e : n + 5 * (r.length + 1) = n + 5 + 5 * r.length := by omega
    rw [e]
    exact this
theorem MxSm.mono {m n : Nat} {x : Mx} (h : MxSm m x) (l : m ≤ n) : MxSm n x := ⟨h.1.mono l, h.2.1.mono l, h.2.2.1.mono l, h.2.2.2.mono l⟩
theorem m1_sm : MxSm 1 m1 := ⟨by unfold Sm; decide, by unfold Sm; decide, by unfold Sm; decide, by unfold Sm; decide⟩
theorem matR_sm {r : List Pc} (hr : RowOk r) (hl : r.length ≤ 8) : MxSm 41 (matR r) := (fold_sm hr m1_sm).mono (by omega)
theorem scl_sm {r : List Pc} : ∀ {s : Int} {n : Nat}, RowOk r → Sm n s → Sm (n + 4 * r.length) (r.foldl stepS s) := by
  induction r with
  | nil => exact fun _ h => h
  | cons p r ih =>
    intro s n hr h
    rw [List.foldl_cons, List.length_cons]
    have e : n + 4 * (r.length + 1) = n + 4 + 4 * r.length := by omega
    rw [e]
    refine ih hr.tail ?_
    unfold stepS
    split
    · exact h.mono (by omega)
    · exact h.mul (ohm_sm hr.head)
theorem sclR_sm {r : List Pc} (hr : RowOk r) (hl : r.length ≤ 8) : Sm 41 (sclR r) := (scl_sm (n := 1) hr (by unfold Sm; decide)).mono (by omega)
theorem app_sm {m : Mx} {e : Int × Int} {j k : Nat} (h : MxSm j m) (h1 : Sm k e.1) (h2 : Sm k e.2) : Sm (j + k + 1) (m.app e).1 ∧ Sm (j + k + 1) (m.app e).2 :=
  ⟨(h.1.mul h1).add (h.2.1.mul h2), (h.2.2.1.mul h1).add (h.2.2.2.mul h2)⟩
theorem low_sm {e : Int × Int} {n : Nat} (h : Pos2 e) (h1 : Sm n e.1) (h2 : Sm n e.2) : Sm n (low e).1 ∧ Sm n (low e).2 := ⟨h1.div (gc_pos2 h), h2.div (gc_pos2 h)⟩
/-! ### what is shown rises with the load -/
def below (e f : Int × Int) : Bool := decide (e.1 * f.2 < f.1 * e.2)
end RL

namespace RL
open PySem L2
def top (i : Nat) : Stmt := PySem.Challenge.pw_rungladders_k78_patterns_and_limits_cert.main.body.getD i (.Pass ⟨0, 0, 0, 0⟩)
/-! ### a def as its callers see it -/
structure Df (P : Program) (w : World) (K : PySem.W.Frag) (mg : Str → Option Value) (base : Heap) (k : Nat) (x : Str) (ps : List Str) (sp : Sp) : Prop where
  ex : ∃ (f : Addr) (fd : FuncData), FnOk P w K mg base CX0 k f fd ps sp ∧ mg x = some (.ref f) ∧ PySem.W.keepIn K (.ref f) = true ∧ Binds K fd ps []
section
variable {X : Cx} {k : Nat} {ps : List Str} {sp : Sp} {x : Str} {p pos : Pos} {e : Expr} {es : List Expr} {t : TA}
theorem pe_df (D : Df X.prog X.w X.K X.mg X.base k x ps sp) (hr : Room k X.A) (hg : Gl X x)
    (ha : PA X (e :: es) t) (hdb : (x == ("__debug__" : Str)) = false := by decide) (he : starEach (e :: es) X.env = (false, eval e X.env) :: starEach es X.env := by rfl) (hpl : (backTo pos (starEach es X.env)).any (·.1) = false := by rfl) :
    PE X (.Call (.Name x p) (e :: es) [] pos) (tCall sp [] E0 t) := by
  obtain ⟨f, fd, G, hm, hk, hb⟩ := D.ex
  exact pe_call G hr hg hm hk hb .nil pass0 ha hdb he hpl
end
theorem pe_fldK {X : Cx} {K : PySem.W.Frag} {e : Expr} {f : Str} {pos : Pos} {ta : TE} (he : PE X e ta) (hK : X.K = K := by rfl) (hb : attributeBase e f X.env (eval e X.env) = eval e X.env := by rfl) : PE X (.Attribute e f pos) (tFld K ta f) := by
  subst hK
  exact pe_fld he hb
structure Txt (K : PySem.W.Frag) (mg : Str → Option Value) : Prop where
  len : mg "len" = none
  abs : mg "abs" = none
  int_ : mg "int" = none
  bool_ : mg "bool" = none
  tuple_ : mg "tuple" = none
  isinstance : mg "isinstance" = none
  divmod : mg "divmod" = none
  max : mg "max" = none
  min : mg "min" = none
  range : mg "range" = none
  all : mg "all" = none
  repr : mg "repr" = none
  str_ : mg "str" = none
  enumerate : mg "enumerate" = none
/-! ### heaps -/
def But (c : Addr) (H H' : Hp) : Prop := ∀ b o, b ≠ c → H b = some o → H' b = some o
theorem But.refl (c : Addr) (H : Hp) : But c H H := fun _ _ _ h => h
theorem But.trans {c : Addr} {H H1 H2 : Hp} (a : But c H H1) (b : But c H1 H2) : But c H H2 := fun x o n h => b x o n (a x o n h)
theorem But.of {c : Addr} {H H' : Hp} (h : Same H H') : But c H H' := fun x o _ e => h x o e
theorem same_upd {H : Hp} {p : Addr} {o : HO} (h : H p = none) : Same H (upd H p o) := fun b x e => by
  rw [upd_ne (ne_of_none e h)]
  exact e
theorem But.upd {c : Addr} {H : Hp} {o : HO} : But c H (upd H c o) := fun b x n e => by
  rw [upd_ne n]
  exact e
theorem But.free {c : Addr} {H H' : Hp} (e : But c H H') {l : Addr} (n : l ≠ c) (h : H' l = none) : H l = none := by
  cases q : H l with
  | none => rfl
  | some o =>
    rw [e l o n q] at h
    cases h
def CupAt (c : Addr) (H : Hp) : Prop := ∃ x y : Int, H c = some (.lst [.int x, .int y]) ∧ 0 ≤ x ∧ x < 2147483629 ∧ 0 ≤ y
theorem CupAt.same {c : Addr} {H H' : Hp} (h : CupAt c H) (s : Same H H') : CupAt c H' := by
  obtain ⟨x, y, a, b⟩ := h
  exact ⟨x, y, s _ _ a, b⟩
theorem CupAt.ne {c b : Addr} {H : Hp} (h : CupAt c H) (n : H b = none) : c ≠ b := by
  obtain ⟨x, y, a, _⟩ := h
  exact ne_of_none a n
/-! ### promises -/
def spCup (K : PySem.W.Frag) : Sp := fun vs H Q _ => ∃ (a : Addr) (ns : List Int) (i : Nat), vs = [.ref a, .int (i : Int)] ∧ SqL K H a (ns.map V.int) ∧ i ≤ 100 ∧ ns.length ≤ 63 ∧
  ∀ H' c, Same H H' → H c = none → CupAt c H' → Q (.ref c) H'
def spSip : Sp := fun vs H Q _ => ∃ (c : Addr) (m : Int), vs = [.ref c, .int m] ∧ CupAt c H ∧ 0 < m ∧ Sm 200 m ∧
  ∀ H' r, But c H H' → CupAt c H' → 0 ≤ r → r < m → Q (.int r) H'
def spPick : Sp := fun vs H Q _ => ∃ (c l : Addr) (xs : List V), vs = [.ref c, .ref l] ∧ CupAt c H ∧ c ≠ l ∧ H l = some (.lst xs) ∧ 0 < xs.length ∧ xs.length ≤ 100 ∧
  ∀ H' v, But c H H' → CupAt c H' → v ∈ xs → Q v H'
def spPair : Sp := fun vs H Q _ => ∃ (t b : Int), vs = [.int t, .int b] ∧ Pos2 (t, b) ∧ Sm 4000 t ∧ Sm 4000 b ∧
  ∀ H' p, Same H H' → H p = none → H' p = some (.tup [.int (low (t, b)).1, .int (low (t, b)).2]) → Q (.ref p) H'
section
variable {P : Program} {w : World} {K : PySem.W.Frag} {mg : Str → Option Value} {base : Heap}
end
end RL

namespace RL
open PySem L2
section
variable {P : Program} {w : World} {K : PySem.W.Frag} {mg : Str → Option Value} {base : Heap}
end
end RL

namespace RL
open PySem L2
theorem mx {a b : Nat} {i j : Int} (hi : Sm a i) (hj : Sm b j) (h : a + b ≤ 134217728 := by decide) : CMulX i j := mulx_ok hi hj h
theorem dvw {b : Nat} {i j : Int} (h : 0 < j) (hb : Sm b j) (h0 : 0 < b := by decide) (h9 : b ≤ 9000 := by decide) : CDivW i j := wide_div h hb h0 h9
structure Txt2 (K : PySem.W.Frag) (mg : Str → Option Value) (tG : Tok) (aO : Addr) : Prop extends Txt K mg where
  mgG : mg "GREATEST" = some (.int 1000000000000 tG)
  mgO : mg "OPEN" = some (.ref aO)
  opn : ∃ (o : Obj) (its : Array Value) (n : Nat), K.lookup aO = some o ∧ o.cls = .type "tuple" ∧ o.data = .seq its n ∧ its.size ≤ sizeLine ∧ Vals [.int 1, .int 0] its.toList
def ResP (t b : Int) : Prop := (0 ≤ t ∧ t ≤ 1000000000000 ∧ 1 ≤ b ∧ b ≤ 1000000000000) ∨ (t = 1 ∧ b = 0)
def spIsInt : Sp := fun vs H Q _ => (∃ i, vs = [.int i] ∧ Q (.bl true) H) ∨ (∃ p xs, vs = [.ref p] ∧ H p = some (.tup xs) ∧ Q (.bl false) H)
def spWithin : Sp := fun vs H Q _ => ∃ v lo hi : Int, vs = [.int v, .int lo, .int hi] ∧ lo ≤ v ∧ v ≤ hi ∧ Q (.bl true) H
def spIsPair : Sp := fun vs H Q _ => ∃ (p : Addr) (t b : Int), vs = [.ref p] ∧ H p = some (.tup [.int t, .int b]) ∧ Q (.bl true) H
def spIsRes : Sp := fun vs H Q _ => (∃ i : Int, vs = [.int i] ∧ 0 ≤ i ∧ i ≤ 1000000000000 ∧ Q (.bl true) H) ∨ (∃ (p : Addr) (t b : Int), vs = [.ref p] ∧ H p = some (.tup [.int t, .int b]) ∧ ResP t b ∧ Q (.bl true) H)
def spPairOf : Sp := fun vs H Q _ => (∃ i, vs = [.int i] ∧ ∀ H' p, Same H H' → H p = none → H' p = some (.tup [.int i, .int 1]) → Q (.ref p) H') ∨ (∃ p xs, vs = [.ref p] ∧ H p = some (.tup xs) ∧ Q (.ref p) H)
def spGcd : Sp := fun vs H Q _ => ∃ x y : Int, vs = [.int x, .int y] ∧ Q (.int (gc x y)) H
def spLow : Sp := fun vs H Q _ => ∃ (t b : Int), vs = [.int t, .int b] ∧ Pos2 (t, b) ∧ Sm 4000 t ∧ Sm 4000 b ∧
  ∀ H' p, Same H H' → H p = none → H' p = some (.tup [.int (low (t, b)).1, .int (low (t, b)).2]) → Q (.ref p) H'
def spLowP : Sp := fun vs H Q _ => ∃ (v : V) (e : Int × Int), vs = [v] ∧ ((∃ i, v = .int i ∧ e = (i, 1)) ∨ (∃ p, v = .ref p ∧ H p = some (.tup [.int e.1, .int e.2]))) ∧ Pos2 e ∧ Sm 4000 e.1 ∧ Sm 4000 e.2 ∧
  ∀ H' p, Same H H' → H p = none → H' p = some (.tup [.int (low e).1, .int (low e).2]) → Q (.ref p) H'
section
variable {P : Program} {w : World} {K : PySem.W.Frag} {mg : Str → Option Value} {base : Heap} {tG : Tok} {aO : Addr}
abbrev s_is_integer : Stmt := top 9
theorem sc_is_integer : FnScope ["value"] ["value"] (defScope s_is_integer) := ⟨rfl, rfl, rfl, by decide +kernel, rfl, by decide +kernel, by decide +kernel⟩

theorem ok_isint {f : Addr} {fd : FuncData} (F : Fun K "is_integer" "is_integer" s_is_integer f fd) (T : Txt K mg) : FnOk P w K mg base CX0 1 f fd ["value"] spIsInt := by
  refine F.ok sc_is_integer (fun vs H Q E h => ?_) (fun cdv A outer s H vs Q E hr h => ?_)
  · rcases h with ⟨i, rfl, _⟩ | ⟨p, xs, rfl, _⟩ <;> rfl
  · refine ⟨_, (pss_one (ps_ret (pe_and (pe_callB call_isi (by rfl) T.isinstance (by decide +kernel) (pa_cons (pv 0) (pa_cons (pe_bltn (v := .ty "int") (by rfl) T.int_ (by decide +kernel) rfl) pa_nil))) (pe_one (pe_not (pe_callB call_isi (by rfl) T.isinstance (by decide +kernel) (pa_cons (pv 0) (pa_cons (pe_bltn (v := .ty "bool") (by rfl) T.bool_ (by decide +kernel) rfl) pa_nil)))))))), ?_⟩
    rcases h with ⟨i, rfl, k⟩ | ⟨p, xs, rfl, hp, k⟩
    · refine ⟨_, rfl, _, _, _, _, true, rfl, .ty _, .base (.int i), kit_ty (by decide +kernel), true, rfl, iteT ?_⟩
      exact ⟨_, rfl, _, _, _, _, false, rfl, .ty _, .base (.int i), kit_ty (by decide +kernel), false, rfl, k⟩
    · refine ⟨_, rfl, _, _, _, _, false, rfl, .ty _, .base (.tup hp), kit_ty (by decide +kernel), false, rfl, iteF ?_⟩
      exact k
abbrev s_is_integer_within : Stmt := top 10
theorem sc_is_integer_within : FnScope ["value", "least", "most"] ["value", "least", "most"] (defScope s_is_integer_within) := ⟨rfl, rfl, rfl, by decide +kernel, rfl, by decide +kernel, by decide +kernel⟩

theorem ok_within {f : Addr} {fd : FuncData} (F : Fun K "is_integer_within" "is_integer_within" s_is_integer_within f fd) (D_is_integer : Df P w K mg base 1 "is_integer" ["value"] spIsInt) : FnOk P w K mg base CX0 2 f fd ["value", "least", "most"] spWithin := by
  refine F.ok sc_is_integer_within (fun vs H Q E h => ?_) (fun cdv A outer s H vs Q E hr h => ?_)
  · obtain ⟨v, lo, hi, rfl, _⟩ := h
    rfl
  · obtain ⟨v, lo, hi, rfl, h1, h2, k⟩ := h
    refine ⟨_, (pss_one (ps_ret (pe_and (pe_df D_is_integer (hr.mono (by decide)) (by rfl) (pa_cons (pv 0) pa_nil)) (pe_one (pe_chain op_le op_le (pv 1) (pv 0) (pv 2)))))), ?_⟩
    refine ⟨_, rfl, .inl ⟨v, rfl, true, rfl, iteT ?_⟩⟩
    refine ⟨_, rfl, _, rfl, _, _, rfl, rfl, _, rfl, ite2 (fun _ => ?_) (fun e => absurd (decide_eq_true h1) e)⟩
    refine ⟨_, rfl, _, _, rfl, rfl, ?_⟩
    show Q (.bl (decide (v ≤ hi))) H
    rw [decide_eq_true h2]
    exact k
abbrev s_is_pair_of_integers : Stmt := top 12
theorem sc_is_pair_of_integers : FnScope ["value"] ["value"] (defScope s_is_pair_of_integers) := ⟨rfl, rfl, rfl, by decide +kernel, rfl, by decide +kernel, by decide +kernel⟩

abbrev s_is_resistance : Stmt := top 13
theorem sc_is_resistance : FnScope ["value", "top", "bottom"] ["value"] (defScope s_is_resistance) := ⟨rfl, rfl, rfl, by decide +kernel, rfl, by decide +kernel, by decide +kernel⟩

abbrev s_pair_of : Stmt := top 14
theorem sc_pair_of : FnScope ["fraction_or_open"] ["fraction_or_open"] (defScope s_pair_of) := ⟨rfl, rfl, rfl, by decide +kernel, rfl, by decide +kernel, by decide +kernel⟩

theorem ok_pairof {f : Addr} {fd : FuncData} (F : Fun K "pair_of" "pair_of" s_pair_of f fd) (D_is_integer : Df P w K mg base 1 "is_integer" ["value"] spIsInt) : FnOk P w K mg base CX0 2 f fd ["fraction_or_open"] spPairOf := by
  refine F.ok sc_pair_of (fun vs H Q E h => ?_) (fun cdv A outer s H vs Q E hr h => ?_)
  · rcases h with ⟨i, rfl, _⟩ | ⟨p, xs, rfl, _⟩ <;> rfl
  · refine ⟨_, (pss_cons (ps_if (pt_val (pe_df D_is_integer (hr.mono (by decide)) (by rfl) (pa_cons (pv 0) pa_nil))) (pss_one (ps_ret (pe_tup (pa_cons (pv 0) (pa_cons pe_int pa_nil))))) pss_nil)
      (pss_one (ps_ret (pv 0)))), ?_⟩
    rcases h with ⟨i, rfl, k⟩ | ⟨p, xs, rfl, hp, k⟩
    · refine ⟨_, rfl, .inl ⟨i, rfl, true, rfl, iteT ?_⟩⟩
      exact ⟨_, rfl, (by show 2 ≤ sizeLine; decide), fun q hq => k _ q (same_upd hq) hq upd_same⟩
    · refine ⟨_, rfl, .inr ⟨p, _, rfl, hp, false, rfl, iteF ?_⟩⟩
      exact ⟨_, rfl, k⟩
abbrev s_common_divisor : Stmt := top 15
theorem sc_common_divisor : FnScope ["first", "second", "high", "low"] ["first", "second"] (defScope s_common_divisor) := ⟨rfl, rfl, rfl, by decide +kernel, rfl, by decide +kernel, by decide +kernel⟩

theorem ok_gcd {f : Addr} {fd : FuncData} (F : Fun K "common_divisor" "common_divisor" s_common_divisor f fd) (T : Txt K mg) : FnOk P w K mg base CX0 1 f fd ["first", "second"] spGcd := by
  refine F.ok sc_common_divisor (fun vs H Q E h => ?_) (fun cdv A outer s H vs Q E hr h => ?_)
  · obtain ⟨t, b, rfl, _⟩ := h
    rfl
  · obtain ⟨t, b, rfl, k⟩ := h
    refine ⟨_, (pss_cons (ps_par (by rfl) sc_common_divisor.nd (i := 2) (j := 3) rfl rfl (by decide) rfl rfl (pa_cons (pe_callB call_abs (by rfl) T.abs (by decide +kernel) (pa_cons (pv 0) pa_nil)) (pa_cons (pe_callB call_abs (by rfl) T.abs (by decide +kernel) (pa_cons (pv 1) pa_nil)) pa_nil)) (by rfl))
      (pss_cons (ps_while PassesOwn.never (pt_cmpR op_gt (pv 3) pe_int (nomark _)) (pss_one (ps_par (by rfl) sc_common_divisor.nd (i := 2) (j := 3) rfl rfl (by decide) rfl rfl (pa_cons (pv 3) (pa_cons (pe_op op_mod (pv 2) (pv 3)) pa_nil)) (by rfl))))
      (pss_one (ps_ret (pv 2))))), ?_⟩
    refine ⟨_, rfl, _, rfl, _, rfl, _, rfl, _, _, rfl, ?_⟩
    refine while_by (fun σ H' => H' = H ∧ ∃ x y : Int, σ = [some (.int t), some (.int b), some (.int x), some (.int y)] ∧ 0 ≤ x ∧ 0 ≤ y ∧ gc x y = gc t b) (fun σ _ => match σ with | [_, _, _, some (.int y)] => y.toNat | _ => 0) ⟨rfl, _, _, rfl, by split <;> omega, by split <;> omega, gc_abs _ _⟩ ?_ ?_
    · rintro σ H' ⟨rfl, x, y, rfl, x0, y0, eg⟩
      refine ⟨_, rfl, _, _, rfl, rfl, _, rfl, ite2 (fun e => ?_) (fun e => ?_)⟩
      · have e0 : 0 < y := of_decide_eq_true e
        refine ⟨_, rfl, _, rfl, _, rfl, _, _, rfl, rfl, e0, _, _, rfl, ?_⟩
        have q1 := Int.emod_nonneg x (show y ≠ 0 by omega)
        have q2 := Int.emod_lt_of_pos x e0
        refine ⟨⟨rfl, y, x % y, rfl, y0, q1, ?_⟩, ?_⟩
        · rw [gc_step x0 e0, eg]
        · show (x % y).toNat < y.toNat
          omega
      · have e0 : ¬ 0 < y := fun z => e (decide_eq_true z)
        have y1 : y = 0 := by omega
        subst y1
        rw [gc_zero x0] at eg
        subst eg
        exact ⟨_, rfl, k⟩
    · rintro σ H' Q1 Q2 hq h
      obtain ⟨v, e1, i, j, e2, e3, z⟩ := h
      exact ⟨v, e1, i, j, e2, e3, z.imp fun k z => ⟨z.1, hq _ _ z.2⟩⟩
abbrev s_lowest_terms : Stmt := top 16
theorem sc_lowest_terms : FnScope ["top", "bottom", "divisor"] ["top", "bottom"] (defScope s_lowest_terms) := ⟨rfl, rfl, rfl, by decide +kernel, rfl, by decide +kernel, by decide +kernel⟩

theorem ok_low {f : Addr} {fd : FuncData} (F : Fun K "lowest_terms" "lowest_terms" s_lowest_terms f fd) (D_common_divisor : Df P w K mg base 1 "common_divisor" ["first", "second"] spGcd) : FnOk P w K mg base CX0 2 f fd ["top", "bottom"] spLow := by
  refine F.ok sc_lowest_terms (fun vs H Q E h => ?_) (fun cdv A outer s H vs Q E hr h => ?_)
  · obtain ⟨t, b, rfl, _⟩ := h
    rfl
  · obtain ⟨t, b, rfl, tb, ts, bs, k⟩ := h
    refine ⟨_, (pss_cons (ps_set (i := 2) sc_lowest_terms.nd rfl (.inl rfl) (pe_df D_common_divisor (hr.mono (by decide)) (by rfl) (pa_cons (pv 0) (pa_cons (pv 1) pa_nil))))
      (pss_one (ps_ret (pe_tup (pa_cons (pe_op op_fdivW (pv 0) (pv 2)) (pa_cons (pe_op op_fdivW (pv 1) (pv 2)) pa_nil)))))), ?_⟩
    have g0 : 0 < gc t b := gc_pos2 tb
    have gs : Sm 4000 (gc t b) := gc_sm tb ts bs
    refine ⟨_, rfl, _, rfl, t, b, rfl, ?_⟩
    refine ⟨_, rfl, _, rfl, _, _, rfl, rfl, dvw g0 gs, _, rfl, _, rfl, _, _, rfl, rfl, dvw g0 gs, (by show 2 ≤ sizeLine; decide), fun p hp => ?_⟩
    exact k _ _ (same_upd hp) hp upd_same
abbrev s_lowest_pair : Stmt := top 17
theorem sc_lowest_pair : FnScope ["fraction_or_open", "top", "bottom"] ["fraction_or_open"] (defScope s_lowest_pair) := ⟨rfl, rfl, rfl, by decide +kernel, rfl, by decide +kernel, by decide +kernel⟩

theorem ok_lowp {f : Addr} {fd : FuncData} (F : Fun K "lowest_pair" "lowest_pair" s_lowest_pair f fd) (D_pair_of : Df P w K mg base 2 "pair_of" ["fraction_or_open"] spPairOf) (D_lowest_terms : Df P w K mg base 2 "lowest_terms" ["top", "bottom"] spLow) : FnOk P w K mg base CX0 3 f fd ["fraction_or_open"] spLowP := by
  refine F.ok sc_lowest_pair (fun vs H Q E h => ?_) (fun cdv A outer s H vs Q E hr h => ?_)
  · obtain ⟨v, e, rfl, _⟩ := h
    rfl
  · obtain ⟨v, e, rfl, hv, ep, e1, e2, k⟩ := h
    refine ⟨_, (pss_cons (ps_asg (pe_df D_pair_of (hr.mono (by decide)) (by rfl) (pa_cons (pv 0) pa_nil)) (pg_tup rfl (pgs_cons (pg_name (i := 1) sc_lowest_pair.nd rfl (.inl rfl)) (pgs_cons (pg_name (i := 2) sc_lowest_pair.nd rfl (.inl rfl)) pgs_nil))))
      (pss_one (ps_ret (pe_df D_lowest_terms (hr.mono (by decide)) (by rfl) (pa_cons (pv 1) (pa_cons (pv 2) pa_nil)))))), ?_⟩
    rcases hv with ⟨i, rfl, rfl⟩ | ⟨p, rfl, hp⟩
    · refine ⟨_, rfl, .inl ⟨i, rfl, fun H1 t s1 nt ht => ?_⟩⟩
      refine ⟨t, _, rfl, SqT.of ht, rfl, _, _, rfl, _, _, rfl, rfl, ?_⟩
      exact ⟨_, rfl, _, rfl, _, _, rfl, ep, e1, e2, fun H2 t2 s2 nt2 ht2 => k _ t2 (s1.trans s2) (s1.free nt2) ht2⟩
    · refine ⟨_, rfl, .inr ⟨p, _, rfl, hp, ?_⟩⟩
      refine ⟨p, _, rfl, SqT.of hp, rfl, _, _, rfl, _, _, rfl, rfl, ?_⟩
      exact ⟨_, rfl, _, rfl, _, _, rfl, ep, e1, e2, fun H2 t2 s2 nt2 ht2 => k _ t2 s2 nt2 ht2⟩
end
end RL

set_option maxHeartbeats 1000000
/-! for i, x in enumerate(t), t a tuple. -/
namespace RL
open PySem L2 PySem.Spec PyProof.Rows
open AutoSeq1 (wpAny_loadPart')
theorem meets_enumerate_newT (l : Addr) (items : Array Value) (n : Nat) (dct : Option Addr) (sl : Array (Option Value)) :
    Meets (Builtin.«enumerate.__new__» ⟨[.type "enumerate", .ref l], []⟩) (fun _ R s => s.heap.get? l = some { cls := .type "tuple", dict := dct, data := .seq items n, slots := sl } ∧
      R (.ok (.ret (.ref (s.heap.push { cls := .type "tuple_iterator", data := .fields #[.ref l, .int 0 0] }).objs.size)))
        { s with heap := (s.heap.push { cls := .type "tuple_iterator", data := .fields #[.ref l, .int 0 0] }).push { cls := .type "enumerate", data := .fields #[.none, .bool false, .ref s.heap.objs.size, rawInt 0, .none, .none] } }) :=
  .of_wp fun prog w A R s h => by
    obtain ⟨hp, g, d, tk, os⟩ := s; obtain ⟨hl, h⟩ := h
    have hsub := sub_enumerate
    have hL : Heap.IsTuple (Shared.heap ⟨hp, g, d, tk, os⟩) l items := ⟨_, hl, rfl, n, rfl⟩
    wp_walk using wpAny_loadPart' hl
    refine wpAny_stack_any fun st => wpAny_pure ?_
    split
    · rename_i c _ _ _ _ _
      cases (c == Value.type "enumerate")
      · wp_walk using wpAny_loadPart' hl, wpAny_pyIter_tuple hL
        exact ⟨_, rfl, h⟩
      · wp_walk using wpAny_loadPart' hl, wpAny_pyIter_tuple hL
        exact ⟨_, rfl, h⟩
    · wp_walk using wpAny_loadPart' hl, wpAny_pyIter_tuple hL
      exact ⟨_, rfl, h⟩
section
variable {prog : Program} {w : World} {A : Around} {E : Value → Shared → Prop} {s : Shared}
theorem call_enumerate_tuple {l : Addr} {items : Array Value} {Q : Value → Shared → Prop} (hL : s.heap.IsTuple l items)
    (h : ∀ h', IsEnum h' (s.heap.objs.size + 1) s.heap.objs.size 0 .none → h'.IsTupleIter s.heap.objs.size l 0 → h'.objs.size = s.heap.objs.size + 2 →
      (∀ b o, s.heap.get? b = some o → h'.get? b = some o) → Q (.ref (s.heap.objs.size + 1)) { s with heap := h' }) :
    wpAny (model prog w) A (call (.type "enumerate") [.ref l]) Q E s := by
  obtain ⟨⟨c, dct, dt, sl⟩, hl, hc, n, hd⟩ := hL
  replace hc : c = .type "tuple" := hc
  replace hd : dt = .seq items n := hd
  subst hc hd
  refine callType_new F.called_enumerate (by decide) (F.typeCall_enumerate_1 _) (F.newCall_enumerate_1 _) (fun obj => F.args_object_init_2 obj _) F.entry_enumerate_new
    (meets_enumerate_newT l items n dct sl) ⟨hl, ?_⟩
  have hz : (s.heap.push { cls := .type "tuple_iterator", data := .fields #[.ref l, .int 0 0] }).objs.size = s.heap.objs.size + 1 := Heap.size_push ..
  show _ ∧ _
  rw [hz]
  have he : IsEnum ((s.heap.push { cls := .type "tuple_iterator", data := .fields #[.ref l, .int 0 0] }).push
      { cls := .type "enumerate", data := .fields #[.none, .bool false, .ref s.heap.objs.size, rawInt 0, .none, .none] }) (s.heap.objs.size + 1) s.heap.objs.size 0 .none := by
    have := Heap.get?_push_size (s.heap.push { cls := .type "tuple_iterator", data := .fields #[.ref l, .int 0 0] })
      (o := { cls := .type "enumerate", data := .fields #[.none, .bool false, .ref s.heap.objs.size, rawInt 0, .none, .none] }) rfl
    rw [hz] at this; exact this
  refine ⟨⟨_, he, rfl⟩, h _ he ⟨_, Heap.get?_push_of_some _ (Heap.get?_push_size _ rfl), rfl, rfl⟩ (by rw [Heap.size_push, hz]) fun b o x => Heap.get?_push_of_some _ (Heap.get?_push_of_some _ x)⟩
end
def IteT (K : PySem.W.Frag) (a : Addr) : It :=
  ⟨fun i H => ∃ (xs : List V) (x : V), SqT K H a xs ∧ xs[i]? = some x, fun i H v H' => ∃ T x, v = .ref T ∧ H T = none ∧ H' = upd H T (.tup [.int (i : Nat), x]) ∧ ∀ xs, SqT K H a xs → xs[i]? = some x, fun i H => ∃ xs : List V, SqT K H a xs ∧ xs.length = i⟩
theorem turn_enumT {P : Program} {w : World} {K : PySem.W.Frag} {elts : List Expr} {kk : Nat} {tpos : Pos} (a e it : Addr) :
    Turn P w K (.Tuple elts kk tpos) (IteT K a) [e, it] e (fun i h => (∃ old, IsEnum h e it ((i : Nat) : Int) old) ∧ h.IsTupleIter it a i ∧ e ≠ it ∧ a ≠ it ∧ a ≠ e) where
  mem := by simp
  obj := fun i h st b hb => by
    obtain ⟨⟨old, he⟩, ⟨o, ho, hc, hd⟩, _⟩ := st
    have e' : b = e ∨ b = it := by simpa using hb
    rcases e' with z | z
    · rw [z]; exact ⟨_, he, fun v q => nomatch q⟩
    · rw [z]; exact ⟨o, ho, fun v q => by rw [hd] at q; cases q⟩
  keep := fun i h h' st k => let ⟨⟨old, he⟩, hi, hne⟩ := st; ⟨⟨old, k e (by simp) _ he⟩, hi.at fun o q => k it (by simp) o q, hne⟩
  item := by
    intro X hP hw hK hc i pins s σ H E I hf st hg
    subst hP hw hK
    obtain ⟨⟨old, he⟩, hit, hne, hai, hae⟩ := st
    obtain ⟨xs, x, hq, hx⟩ := hg
    obtain ⟨its, rv, p, hz⟩ := I.tuple hq
    obtain ⟨u, hu, ru⟩ := rv.get hx
    have hel : e < s.heap.objs.size := Heap.lt_size he
    have hil : it < s.heap.objs.size := by obtain ⟨_, q, _⟩ := hit; exact Heap.lt_size q
    have hi : i < its.toArray.size := by
      have := (List.getElem?_eq_some_iff.mp hu).1
      simpa using this
    refine wpAny_pyNext_enum_itemD (Draws.tuple (A := X.A.in1) (I.ok.hd hc) it a hai its.toArray) he ⟨hit, p⟩ hi hne (by simp [hne, Ne.symm hae]) fun x' h' tk hPx ho st' hT hsz hk => ?_
    have ex : x' = u := by
      have h1 : its.toArray[i]? = some u := by simpa using hu
      rw [h1] at hPx
      exact (Option.some.inj hPx).symm
    subst ex
    refine ⟨_, rfl, wpAny_letOwnedTupleGo_enum (s := { s with heap := h', toks := tk + 1 }) ho fun h'' he' sb => ?_⟩
    have hT2 : h''.get? s.heap.objs.size = some { cls := .type "tuple", data := .seq #[.int i tk, x'] } := (sb.2 _ (Nat.ne_of_gt hel)).trans hT
    have new : ObjOk X.prog X.w (upd H s.heap.objs.size (.tup [.int (i : Nat), x])) h'' s.heap.objs.size (.tup [.int (i : Nat), x]) :=
      ⟨by show 2 ≤ sizeLine; decide, [.int i tk, x'], .cons ⟨_, rfl⟩ (.cons ru .nil), ⟨_, hT2, rfl, _, rfl⟩⟩
    have I1 : Inv X pins σ (upd H s.heap.objs.size (.tup [.int (i : Nat), x])) { s with heap := h'', toks := tk + 1 } :=
      I.turnedNew (ch := [e, it]) (fun b ob hb q => (sb.2 b (fun z => hb (by simp [z]))).trans (hk b ob (fun z => hb (by simp [z])) (fun z => hb (by simp [z])) q)) hf (Nat.le_refl _) new
    refine ⟨.ref s.heap.objs.size, _, I1, rfl, ⟨_, x, rfl, I.hok.fresh (Nat.le_refl _), rfl, fun ys hy => by rw [I.tuple_inj hy hq]; exact hx⟩, ⟨⟨x', ?_⟩, st'.1.at fun o q => (sb.2 it (Ne.symm hne)).trans q, hne, hai, hae⟩, fun b hb => ?_⟩
    · have e1 : ((i + 1 : Nat) : Int) = (i : Int) + 1 := by omega
      rw [e1]; exact he'
    · have hb' : b < s.heap.objs.size := by
        have e' : b = e ∨ b = it := by simpa using hb
        rcases e' with z | z
        · rw [z]; exact hel
        · rw [z]; exact hil
      rw [upd_ne (Nat.ne_of_lt hb')]
      exact (hf b hb).1
  done := by
    intro X hP hw hK hc i pins s σ H E I hf st hg
    subst hP hw hK
    obtain ⟨⟨old, he⟩, hit, hne, hai, hae⟩ := st
    obtain ⟨xs, hq, hx⟩ := hg
    obtain ⟨its, rv, p, hz⟩ := I.tuple hq
    obtain ⟨f0, f1, f2, f3, f4, f5⟩ := hf it (by simp)
    have hl := rv.length
    have en : its.toArray.size = i := by simp; omega
    have hit' : s.heap.IsTupleIter it a its.toArray.size := by rw [en]; exact hit
    exact wpAny_pyNext_enum_endD (Draws.tuple (A := X.A.in1) (I.ok.hd hc) it a hai its.toArray) he ⟨hit', p⟩ fun h' eb => ⟨rfl, I.turned (t' := s.toks) (fun b o hb q => eb b o hb q) f0 f1 f3 f4 f5⟩
  self := fun A i s Q E st h => let ⟨⟨_, he⟩, _⟩ := st; wpAny_pyIter_enum he h
def iEnumT (K : PySem.W.Frag) (ta : TA) : TI := fun σ H R => ta σ H fun vs H1 => ∃ a xs, vs = [.ref a] ∧ SqT K H1 a xs ∧ R (IteT K a) H1
theorem pi_enumT {X : Cx} {e : Expr} {ta : TA} {p pos tpos : Pos} {elts : List Expr} {kk : Nat} (hg : Gl X "enumerate") (hm : X.mg "enumerate" = none) (ha : PA X [e] ta) (hs : starEach [e] X.env = [(false, eval e X.env)] := by rfl) :
    PI X (.Tuple elts kk tpos) (.Call (.Name "enumerate" p) [e] [] pos) (iEnumT X.K ta) := by
  refine ⟨fun pins s σ H R I h => ?_⟩
  refine Call_ (ld_blt I hg hm boot_enumerate (PyProof.Rows.callWith_type1 (thn (ha.run pos pins s σ H _ I h) fun us s1 ⟨vs, H1, I1, r1, q1⟩ => ?_) hs rfl))
  obtain ⟨a, xs, ex, hq, q⟩ := q1
  subst ex
  cases r1 with
  | cons r rr =>
    cases rr
    cases r
    obtain ⟨its, rv, p', hz⟩ := I1.tuple hq
    have hal : a < s1.heap.objs.size := by obtain ⟨o, ho, _⟩ := id p'; exact Heap.lt_size ho
    refine call_enumerate_tuple p' fun h' he hit hsz hk => wpAny_pyIter_enum he ?_
    have I2 : Inv X pins σ H1 { s1 with heap := h' } := I1.kept (t' := s1.toks) hk
    refine ⟨s1.heap.objs.size + 1, [s1.heap.objs.size + 1, s1.heap.objs.size], _, _, H1, rfl, I2, turn_enumT a (s1.heap.objs.size + 1) s1.heap.objs.size, ⟨⟨.none, he⟩, hit, Nat.succ_ne_self _, Nat.ne_of_lt hal, Nat.ne_of_lt (Nat.lt_succ_of_lt hal)⟩, fun b hb => ?_, q⟩
    have e' : b = s1.heap.objs.size + 1 ∨ b = s1.heap.objs.size := by simpa using hb
    have hle : s1.heap.objs.size ≤ b := by
      rcases e' with z | z
      · rw [z]; exact Nat.le_add_right _ _
      · rw [z]; exact Nat.le_refl _
    exact I1.fpOk hle (I1.hok.fresh hle)
theorem for_enumT {K : PySem.W.Frag} {a : Addr} {xs : List V} {g : TG} {tb : TS} {D : Ends} {σ : L2.St} {H : Hp} (Pv : Nat → L2.St → Hp → Prop) (h0 : Pv 0 σ H) (hl : ∀ i σ H, i ≤ xs.length → Pv i σ H → SqT K H a xs)
    (hs : ∀ i x σ H T, xs[i]? = some x → Pv i σ H → H T = none → g (.ref T) σ (upd H T (.tup [.int (i : Nat), x])) fun σ2 H2 => tb { D with nx := Pv (i + 1), ct := Pv (i + 1), bk := D.nx } σ2 H2) (hd : ∀ σ H, Pv xs.length σ H → D.nx σ H) :
    ∃ W : Nat → Nat → L2.St → Hp → Prop, (∃ m, W 0 m σ H) ∧ ∀ i m σ H, W i m σ H →
      ((IteT K a).stop i H ∧ D.nx σ H) ∨ ((IteT K a).go i H ∧ ∃ N : L2.St → Hp → Prop, (∀ σ' H', N σ' H' → ∃ m', m' < m ∧ W (i + 1) m' σ' H') ∧ ∀ x H', (IteT K a).yld i H x H' → g x σ H' fun σ2 H2 => tb { D with nx := N, ct := N, bk := D.nx } σ2 H2) := by
  refine ⟨fun i m σ H => m = xs.length - i ∧ i ≤ xs.length ∧ Pv i σ H, ⟨xs.length, by simp, Nat.zero_le _, h0⟩, ?_⟩
  rintro i m σ H ⟨rfl, hi, p⟩
  have q := hl i σ H hi p
  by_cases hlt : i < xs.length
  · refine .inr ⟨⟨xs, xs[i], q, by simp [hlt]⟩, Pv (i + 1), fun σ' H' p' => ⟨xs.length - (i + 1), by omega, rfl, hlt, p'⟩, fun x H' y => ?_⟩
    obtain ⟨T, x', rfl, nT, rfl, hx⟩ := y
    exact hs i x' σ H T (hx xs q) p nT
  · have : i = xs.length := by omega
    subst this
    exact .inl ⟨⟨xs, q, rfl⟩, hd σ H p⟩
end RL

namespace RL
open PySem L2
/-! ### the texts of pieces -/
def wd (r : Bool) : Str := if r = true then Str.ofString "rail" else Str.ofString "rung"
def ptx (p : Pc) : Str := wd p.1 ++ Str.ofString " " ++ ts p.2
theorem ptx_dec : ∀ r r' : Bool, ∀ i j : Fin 12, ptx (r, (i.val : Int) + 1) = ptx (r', (j.val : Int) + 1) → r = r' ∧ i = j := by decide +kernel
theorem ptx_free_dec : ∀ r : Bool, ∀ i : Fin 12, 44 ∉ TL.tl (ptx (r, (i.val : Int) + 1)) ∧ (ptx (r, (i.val : Int) + 1)).length ≤ 7 := by decide +kernel
theorem pc_fin {p : Pc} (h : PcOk p) : ∃ i : Fin 12, p = (p.1, (i.val : Int) + 1) := by
  obtain ⟨h1, h2⟩ := h
  refine ⟨⟨(p.2 - 1).toNat, by omega⟩, ?_⟩
  ext
  · rfl
  · dsimp
    omega
theorem ptx_inj {p q : Pc} (hp : PcOk p) (hq : PcOk q) (h : ptx p = ptx q) : p = q := by
  obtain ⟨i, ei⟩ := pc_fin hp
  obtain ⟨j, ej⟩ := pc_fin hq
  rw [ei, ej] at h
  obtain ⟨a, b⟩ := ptx_dec _ _ _ _ h
  rw [ei, ej, a, b]
theorem ptx_free {p : Pc} (hp : PcOk p) : 44 ∉ TL.tl (ptx p) := by
  obtain ⟨i, ei⟩ := pc_fin hp
  rw [ei]
  exact (ptx_free_dec _ _).1
theorem ptx_len {p : Pc} (hp : PcOk p) : (ptx p).length ≤ 7 := by
  obtain ⟨i, ei⟩ := pc_fin hp
  rw [ei]
  exact (ptx_free_dec _ _).2
theorem wd_inj {r r' : Bool} (h : wd r = wd r') : r = r' := by
  revert r r'
  decide +kernel
theorem both {R G : Prop} (f : R → G) (r : R) : G := f r
theorem ne_selfV (v : V) : ¬ (!decide (v = v)) = true := by
  rw [decide_eq_true rfl]
  decide
/-! ### rows in the heap -/
def PieceAt (H : Hp) (v : V) (p : Pc) : Prop := ∃ t, v = .ref t ∧ H t = some (.tup [.str (wd p.1), .int p.2])
def PiecesAt (H : Hp) (vs : List V) (r : List Pc) : Prop := vs.length = r.length ∧ ∀ (i : Nat) (p : Pc), r[i]? = some p → ∃ v, vs[i]? = some v ∧ PieceAt H v p
theorem PieceAt.same {H H' : Hp} {v : V} {p : Pc} (h : PieceAt H v p) (s : Same H H') : PieceAt H' v p := by
  obtain ⟨t, e, ht⟩ := h
  exact ⟨t, e, s _ _ ht⟩
theorem PiecesAt.same {H H' : Hp} {vs : List V} {r : List Pc} (h : PiecesAt H vs r) (s : Same H H') : PiecesAt H' vs r :=
  ⟨h.1, fun i p hp => let ⟨v, hv, q⟩ := h.2 i p hp; ⟨v, hv, q.same s⟩⟩
theorem PieceAt.but {H H' : Hp} {x : Addr} {v : V} {p : Pc} (h : PieceAt H v p) (s : But x H H') (hx : ∀ xs, H x ≠ some (.tup xs)) : PieceAt H' v p := by
  obtain ⟨t, e, ht⟩ := h
  refine ⟨t, e, s _ _ ?_ ht⟩
  rintro rfl
  exact hx _ ht
theorem PiecesAt.but {H H' : Hp} {x : Addr} {vs : List V} {r : List Pc} (h : PiecesAt H vs r) (s : But x H H') (hx : ∀ xs, H x ≠ some (.tup xs)) : PiecesAt H' vs r :=
  ⟨h.1, fun i p hp => let ⟨v, hv, q⟩ := h.2 i p hp; ⟨v, hv, q.but s hx⟩⟩
theorem PiecesAt.at_ {H : Hp} {vs : List V} {r : List Pc} (h : PiecesAt H vs r) {i : Nat} {v : V} (hv : vs[i]? = some v) : ∃ p, r[i]? = some p ∧ PieceAt H v p := by
  have hi : i < r.length := by
    rw [← h.1]
    exact (List.getElem?_eq_some_iff.mp hv).1
  obtain ⟨w, hw, q⟩ := h.2 i r[i] (List.getElem?_eq_getElem hi)
  rw [hv] at hw
  cases hw
  exact ⟨_, List.getElem?_eq_getElem hi, q⟩
theorem RowOk.at_ {r : List Pc} (h : RowOk r) {i : Nat} {p : Pc} (hp : r[i]? = some p) : PcOk p := h p (List.mem_of_getElem? hp)
structure Txt3 (K : PySem.W.Frag) (mg : Str → Option Value) (tG t1 t2 t3 : Tok) (aO aW J C : Addr) : Prop extends Txt2 K mg tG aO where
  mgOh : mg "MOST_OHMS" = some (.int 12 t1)
  mgPi : mg "MOST_PIECES" = some (.int 4 t2)
  mgJo : mg "MOST_JOINED" = some (.int 8 t3)
  mgW : mg "WORDS" = some (.ref aW)
  wds : ∃ (o : Obj) (its : Array Value) (n : Nat), K.lookup aW = some o ∧ o.cls = .type "tuple" ∧ o.data = .seq its n ∧ its.size ≤ sizeLine ∧ Vals [.str (Str.ofString "rail"), .str (Str.ofString "rung")] its.toList
  mgJ : mg "JoinedRow" = some (.ref J)
  mgC : mg "Pattern" = some (.ref C)
  clJ : Cls K J
  nJ : NoAttr K J "row"
  caJ : PySem.W.findIn K (.ref J) "__class__" = some (some (.builtin "object.__class__"))
  cnJ : PySem.W.specialIn K (.builtin "object.__class__") "__get__" = some (some (.builtin "getset_descriptor.__get__"))
  ctJ : PySem.W.takesIn K (.builtin "object.__class__") = some true
  cmJ : PySem.W.mroIn K J (.type "object") = some true
  isJ : PySem.W.kitOne K (.ref J) (.ref J) = some true
  ktJ : PySem.W.kitOne K (.type "tuple") (.ref J) = some false
  cl : Cls K C
  nRow : NoAttr K C "row"
  nMat : NoAttr K C "matrix"
  nScl : NoAttr K C "scale"
  nFour : NoAttr K C "four"
/-! ### promises -/
def spJ (J : Addr) : Sp := fun vs H Q _ => ∃ (x dx : Addr) (v : V), vs = [.ref x, v] ∧ H x = some (.ins J dx []) ∧ Q .non (upd H x (.ins J dx [("row", v)]))
def spIsPiece : Sp := fun vs H Q _ => ∃ (v : V) (p : Pc), vs = [v] ∧ PieceAt H v p ∧ PcOk p ∧ Q (.bl true) H
def spChk (J : Addr) : Sp := fun vs H Q _ => ∃ p : Addr, vs = [.ref p] ∧ ((∃ j dj q, H p = some (.tup [.ref j]) ∧ H j = some (.ins J dj [("row", .ref q)]) ∧ Q (.ref q) H) ∨
  (∃ ws r, H p = some (.tup ws) ∧ PiecesAt H ws r ∧ RowOk r ∧ 1 ≤ r.length ∧ r.length ≤ 4 ∧ ∀ H', Same H H' → Q (.ref p) H'))
def MatT (m : Mx) : List V := [.int m.a, .int m.b, .int m.c, .int m.d]
def spMat : Sp := fun vs H Q _ => ∃ (q : Addr) (ws : List V) (r : List Pc), vs = [.ref q] ∧ H q = some (.tup ws) ∧ PiecesAt H ws r ∧ RowOk r ∧ r.length ≤ 8 ∧
  ∀ H' p m, Same H H' → H' p = some (.tup [.ref m, .int (sclR r)]) → H' m = some (.tup (MatT (matR r))) → H p = none → H m = none → Q (.ref p) H'
def spShown : Sp := fun vs H Q _ => ∃ (a b : Addr) (m : Mx) (e : Int × Int), vs = [.ref a, .ref b] ∧ H a = some (.tup (MatT m)) ∧ H b = some (.tup [.int e.1, .int e.2]) ∧ MxSm 3000 m ∧ Sm 4000 e.1 ∧ Sm 4000 e.2 ∧
  ∀ H' p, Same H H' → H p = none → H' p = some (.tup [.int (m.app e).1, .int (m.app e).2]) → Q (.ref p) H'
def spPtx : Sp := fun vs H Q _ => ∃ p : Pc, vs = [.str (wd p.1), .int p.2] ∧ PcOk p ∧ Q (.str (ptx p)) H
def spPwt : Sp := fun vs H Q _ => ∃ p : Pc, vs = [.str (ptx p)] ∧ PcOk p ∧ ∀ H' t, Same H H' → H t = none → H' t = some (.tup [.str (wd p.1), .int p.2]) → Q (.ref t) H'
section
variable {P : Program} {w : World} {K : PySem.W.Frag} {mg : Str → Option Value} {base : Heap} {tG t1 t2 t3 : Tok} {aO aW J C : Addr}
abbrev s_JoinedRow_init : Stmt := inClass (top 45) 0
theorem sc_JoinedRow_init : FnScope ["self", "row"] ["self", "row"] (defScope s_JoinedRow_init) := ⟨rfl, rfl, rfl, by decide +kernel, rfl, by decide +kernel, by decide +kernel⟩

theorem ok_join {f : Addr} {fd : FuncData} (F : Fun K "__init__" "JoinedRow.__init__" s_JoinedRow_init f fd) (T : Txt3 K mg tG t1 t2 t3 aO aW J C) : FnOk P w K mg base CX0 1 f fd ["self", "row"] (spJ J) := by
  refine F.ok sc_JoinedRow_init (fun vs H Q E h => ?_) (fun cdv A outer s H vs Q E hr h => ?_)
  · obtain ⟨x, dx, v, rfl, _⟩ := h
    rfl
  · obtain ⟨x, dx, v, rfl, hx, k⟩ := h
    refine ⟨_, (pss_one (ps_fld (pv 0) (pv 1) rfl)), ?_⟩
    exact ⟨_, rfl, _, rfl, x, J, dx, _, rfl, hx, T.clJ, T.nJ, (by show 0 < 1000; decide), k⟩
abbrev s_is_piece : Stmt := top 48
theorem sc_is_piece : FnScope ["value", "word", "ohms"] ["value"] (defScope s_is_piece) := ⟨rfl, rfl, rfl, by decide +kernel, rfl, by decide +kernel, by decide +kernel⟩

theorem ok_ispiece {f : Addr} {fd : FuncData} (F : Fun K "is_piece" "is_piece" s_is_piece f fd) (T : Txt3 K mg tG t1 t2 t3 aO aW J C) (D_is_integer_within : Df P w K mg base 2 "is_integer_within" ["value", "least", "most"] spWithin) : FnOk P w K mg base CX0 3 f fd ["value"] spIsPiece := by
  refine F.ok sc_is_piece (fun vs H Q E h => ?_) (fun cdv A outer s H vs Q E hr h => ?_)
  · obtain ⟨v, p, rfl, _⟩ := h
    rfl
  · obtain ⟨v, p, rfl, ⟨t, rfl, ht⟩, ⟨p1, p2⟩, k⟩ := h
    refine ⟨_, (pss_cons (ps_if (PW.pt (pw_or (pt_not (pt_val (pe_callB call_isi (by rfl) T.isinstance (by decide +kernel) (pa_cons (pv 0) (pa_cons (pe_bltn (v := .ty "tuple") (by rfl) T.tuple_ (by decide +kernel) rfl) pa_nil))))) (pw_or1 (pt_cmpR op_ne (pe_callB call_len_seq (by rfl) T.len (by decide +kernel) (pa_cons (pv 0) pa_nil)) pe_int (nomark _))))) (pss_one (ps_ret pe_bl)) pss_nil)
      (pss_cons (ps_asg (pv 0) (pg_tup rfl (pgs_cons (pg_name (i := 1) sc_is_piece.nd rfl (.inl rfl)) (pgs_cons (pg_name (i := 2) sc_is_piece.nd rfl (.inl rfl)) pgs_nil))))
      (pss_one (ps_ret (pe_and (pe_callB call_isi (by rfl) T.isinstance (by decide +kernel) (pa_cons (pv 1) (pa_cons (pe_bltn (v := .ty "str") (by rfl) T.str_ (by decide +kernel) rfl) pa_nil))) (pe_and (pe_cmpR op_in_seq (pv 1) (pe_glob (v := .ref aW) rfl T.mgW rfl) (by rfl)) (pe_one (pe_df D_is_integer_within (hr.mono (by decide)) (by rfl) (pa_cons (pv 2) (pa_cons pe_int (pa_cons (pe_glob (v := .int 12) rfl T.mgOh ⟨_, rfl⟩) pa_nil))))))))))), ?_⟩
    refine ⟨_, rfl, _, _, _, _, true, rfl, .ty _, .base (.tup ht), kit_ty (by decide +kernel), true, rfl, iteF ?_⟩
    refine ⟨_, rfl, t, _, rfl, .inr (SqT.of ht), rfl, _, rfl, ite2 (fun e => absurd e (ne_selfV (.int 2))) (fun _ => ?_)⟩
    refine ⟨_, rfl, t, _, rfl, SqT.of ht, rfl, _, _, rfl, _, _, rfl, rfl, ?_⟩
    refine ⟨_, rfl, _, _, _, _, true, rfl, .ty _, .base (.str _), kit_ty (by decide +kernel), true, rfl, iteT ?_⟩
    have hin : inV (V.str (wd p.1)) [.str (Str.ofString "rail"), .str (Str.ofString "rung")] = true := by
      cases p.1 <;> decide +kernel
    refine ⟨_, rfl, aW, _, rfl, .inr (.inr T.wds), rfl, rfl, true, congrArg V.bl hin, iteT ?_⟩
    exact ⟨_, rfl, p.2, 1, 12, rfl, p1, p2, k⟩
abbrev s_checked_row : Stmt := top 47
theorem sc_checked_row : FnScope ["pieces", "at", "piece"] ["pieces"] (defScope s_checked_row) := ⟨rfl, rfl, rfl, by decide +kernel, rfl, by decide +kernel, by decide +kernel⟩

theorem ok_chk {f : Addr} {fd : FuncData} (F : Fun K "checked_row" "checked_row" s_checked_row f fd) (T : Txt3 K mg tG t1 t2 t3 aO aW J C) (D_is_piece : Df P w K mg base 3 "is_piece" ["value"] spIsPiece) : FnOk P w K mg base CX0 4 f fd ["pieces"] (spChk J) := by
  refine F.ok sc_checked_row (fun vs H Q E h => ?_) (fun cdv A outer s H vs Q E hr h => ?_)
  · obtain ⟨p, rfl, _⟩ := h
    rfl
  · obtain ⟨p, rfl, h⟩ := h
    refine ⟨_, (pss_cons (ps_if (PW.pt (pw_and (pt_cmpR op_eq (pe_callB call_len_seq (by rfl) T.len (by decide +kernel) (pa_cons (pv 0) pa_nil)) pe_int (nomark _)) (pw_and1 (pt_val (pe_callB call_isi (by rfl) T.isinstance (by decide +kernel) (pa_cons (pe_ix ix_tup (pv 0) pe_int (fun _ _ => rfl)) (pa_cons (pe_glob (v := .ref J) rfl T.mgJ rfl) pa_nil))))))) (pss_one (ps_ret (pe_fld (pe_ix ix_tup (pv 0) pe_int (fun _ _ => rfl)) rfl))) pss_nil)
      (pss_cons (ps_if (PW.pt (pw_or (pt_cmpR op_lt (pe_callB call_len_seq (by rfl) T.len (by decide +kernel) (pa_cons (pv 0) pa_nil)) pe_int (nomark _)) (pw_or1 (pt_cmpR op_gt (pe_callB call_len_seq (by rfl) T.len (by decide +kernel) (pa_cons (pv 0) pa_nil)) (pe_glob (v := .int 4) rfl T.mgPi ⟨_, rfl⟩) (nomark _))))) (pss_one ps_never) pss_nil)
      (pss_cons (ps_for PassesOwn.never rfl (pi_enumT (by rfl) T.enumerate (pa_cons (pv 0) pa_nil)) (pg_tup rfl (pgs_cons (pg_name (i := 1) sc_checked_row.nd rfl (.inl rfl)) (pgs_cons (pg_name (i := 2) sc_checked_row.nd rfl (.inl rfl)) pgs_nil))) (pss_one (ps_if (pt_not (pt_val (pe_df D_is_piece (hr.mono (by decide)) (by rfl) (pa_cons (pv 2) pa_nil)))) (pss_one ps_never) pss_nil)))
      (pss_one (ps_ret (pv 0)))))), ?_⟩
    rcases h with ⟨j, dj, q, hp, hj, k⟩ | ⟨ws, r, hp, hw, hok, l1, l4, k⟩
    · refine ⟨_, rfl, p, _, rfl, .inr (SqT.of hp), rfl, _, rfl, ite2 (fun _ => ?_) (fun e => absurd (decide_eq_true rfl) e)⟩
      refine ⟨_, rfl, p, _, _, _, rfl, rfl, SqT.of hp, atI_nat (j := 0) rfl, _, _, _, _, true, rfl, .own J, .base (.ins hj T.clJ T.caJ T.cnJ T.ctJ T.cmJ), T.isJ, true, rfl, iteT ?_⟩
      exact ⟨_, rfl, p, _, _, _, rfl, rfl, SqT.of hp, atI_nat (j := 0) rfl, j, J, dj, _, _, rfl, hj, T.clJ, T.nJ, rfl, k⟩
    · have lw : ws.length = r.length := hw.1
      refine both (fun rest => ⟨_, rfl, p, _, rfl, .inr (SqT.of hp), rfl, _, rfl, ite2 (fun e => ?_) (fun _ => rest)⟩) ?_
      · have e1 : ws.length = 1 := by
          have := V.int.inj (of_decide_eq_true e)
          omega
        obtain ⟨t, et, ht⟩ := (hw.2 0 r[0] (List.getElem?_eq_getElem (by omega)))
        obtain ⟨a, rfl, ha⟩ := ht
        refine ⟨_, rfl, p, _, _, _, rfl, rfl, SqT.of hp, atI_nat (j := 0) et, _, _, _, _, false, rfl, .own J, .base (.tup ha), T.ktJ, false, rfl, iteF rest⟩
      refine ⟨_, rfl, p, _, rfl, .inr (SqT.of hp), _, _, rfl, rfl, _, rfl, ite2 (fun e => ?_) (fun _ => ?_)⟩
      · have := of_decide_eq_true e
        omega
      refine ⟨_, rfl, p, _, rfl, .inr (SqT.of hp), _, _, rfl, rfl, _, rfl, ite2 (fun e => ?_) (fun _ => ?_)⟩
      · have := of_decide_eq_true e
        omega
      refine ⟨_, rfl, p, _, rfl, SqT.of hp, ?_⟩
      refine for_enumT (K := K) (a := p) (xs := ws) (fun i σ H' => Same H H' ∧ ∃ v1 v2, σ = [some (.ref p), v1, v2]) ⟨Same.refl _, none, none, rfl⟩ (fun i σ H' _ h => SqT.of (h.1 _ _ hp)) ?_ ?_
      · rintro i x σ H' T0 hx ⟨sm, v1, v2, rfl⟩ nT
        refine ⟨T0, _, rfl, SqT.of upd_same, rfl, _, _, rfl, _, _, rfl, rfl, ?_⟩
        obtain ⟨pc, hpc, hx'⟩ := hw.at_ hx
        have s2 := sm.trans (same_upd (o := .tup [.int (i : Nat), x]) nT)
        exact ⟨_, rfl, _, pc, rfl, hx'.same s2, hok.at_ hpc, true, rfl, iteF ⟨s2, _, _, rfl⟩⟩
      · rintro σ H' ⟨sm, v1, v2, rfl⟩
        exact ⟨_, rfl, k _ sm⟩
abbrev s_matrix_and_scale : Stmt := top 49
theorem sc_matrix_and_scale : FnScope ["row", "a", "b", "c", "d", "scale", "word", "ohms"] ["row"] (defScope s_matrix_and_scale) := ⟨rfl, rfl, rfl, by decide +kernel, rfl, by decide +kernel, by decide +kernel⟩

theorem ok_mat {f : Addr} {fd : FuncData} (F : Fun K "matrix_and_scale" "matrix_and_scale" s_matrix_and_scale f fd) : FnOk P w K mg base CX0 1 f fd ["row"] spMat := by
  refine F.ok sc_matrix_and_scale (fun vs H Q E h => ?_) (fun cdv A outer s H vs Q E hr h => ?_)
  · obtain ⟨q, ws, r, rfl, _⟩ := h
    rfl
  · obtain ⟨q, ws, r, rfl, hq, hw, hok, l8, k⟩ := h
    refine ⟨_, (pss_cons (ps_asg (pe_tup (pa_cons pe_int (pa_cons pe_int (pa_cons pe_int (pa_cons pe_int pa_nil))))) (pg_tup rfl (pgs_cons (pg_name (i := 1) sc_matrix_and_scale.nd rfl (.inl rfl)) (pgs_cons (pg_name (i := 2) sc_matrix_and_scale.nd rfl (.inl rfl)) (pgs_cons (pg_name (i := 3) sc_matrix_and_scale.nd rfl (.inl rfl)) (pgs_cons (pg_name (i := 4) sc_matrix_and_scale.nd rfl (.inl rfl)) pgs_nil))))))
      (pss_cons (ps_set (i := 5) sc_matrix_and_scale.nd rfl (.inl rfl) pe_int)
      (pss_cons (ps_for PassesOwn.never rfl (pi_tup (pv 0)) (pg_tup rfl (pgs_cons (pg_name (i := 6) sc_matrix_and_scale.nd rfl (.inl rfl)) (pgs_cons (pg_name (i := 7) sc_matrix_and_scale.nd rfl (.inl rfl)) pgs_nil))) (pss_one (ps_if (pt_cmpR op_eq (pv 6) pe_str (nomark _)) (pss_one (ps_par (by rfl) sc_matrix_and_scale.nd (i := 2) (j := 4) rfl rfl (by decide) rfl rfl (pa_cons (pe_op op_add (pe_op op_mulX (pv 1) (pv 7)) (pv 2)) (pa_cons (pe_op op_add (pe_op op_mulX (pv 3) (pv 7)) (pv 4)) pa_nil)) (by rfl))) (pss_cons (ps_asg (pe_tup (pa_cons (pe_op op_add (pe_op op_mulX (pv 1) (pv 7)) (pv 2)) (pa_cons (pe_op op_mulX (pv 2) (pv 7)) (pa_cons (pe_op op_add (pe_op op_mulX (pv 3) (pv 7)) (pv 4)) (pa_cons (pe_op op_mulX (pv 4) (pv 7)) pa_nil))))) (pg_tup rfl (pgs_cons (pg_name (i := 1) sc_matrix_and_scale.nd rfl (.inl rfl)) (pgs_cons (pg_name (i := 2) sc_matrix_and_scale.nd rfl (.inl rfl)) (pgs_cons (pg_name (i := 3) sc_matrix_and_scale.nd rfl (.inl rfl)) (pgs_cons (pg_name (i := 4) sc_matrix_and_scale.nd rfl (.inl rfl)) pgs_nil))))))
      (pss_one (ps_set (i := 5) sc_matrix_and_scale.nd rfl (.inl rfl) (pe_op op_mulX (pv 5) (pv 7))))))))
      (pss_one (ps_ret (pe_tup (pa_cons (pe_tup (pa_cons (pv 1) (pa_cons (pv 2) (pa_cons (pv 3) (pa_cons (pv 4) pa_nil))))) (pa_cons (pv 5) pa_nil)))))))), ?_⟩
    refine ⟨(by show 4 ≤ sizeLine; decide), fun p0 hp0 => ⟨p0, _, rfl, SqT.of upd_same, rfl, _, _, rfl, _, _, rfl, _, _, rfl, _, _, rfl, rfl, ?_⟩⟩
    have s0 := same_upd (o := .tup [.int 1, .int 0, .int 0, .int 1]) hp0
    refine ⟨_, rfl, q, rfl, ⟨_, SqT.of (s0 _ _ hq)⟩, ?_⟩
    refine for_tup (K := K) (a := q) (xs := ws) (fun i σ H' => Same H H' ∧ ∃ v1 v2, σ = [some (.ref q), some (.int ((r.take i).foldl stepM m1).a), some (.int ((r.take i).foldl stepM m1).b), some (.int ((r.take i).foldl stepM m1).c), some (.int ((r.take i).foldl stepM m1).d), some (.int ((r.take i).foldl stepS 1)), v1, v2]) ⟨s0, none, none, rfl⟩ (fun i σ H' _ h => SqT.of (h.1 _ _ hq)) ?_ ?_
    · rintro i x σ H' hx ⟨sm, v1, v2, rfl⟩
      obtain ⟨pc, hpc, t, rfl, ht⟩ := hw.at_ hx
      have hi : i < r.length := (List.getElem?_eq_some_iff.mp hpc).1
      have tk : r.take (i + 1) = r.take i ++ [pc] := by
        rw [List.take_succ, hpc]
        rfl
      have f1 : (r.take (i + 1)).foldl stepM m1 = stepM ((r.take i).foldl stepM m1) pc := by rw [tk, List.foldl_append]; rfl
      have f2 : (r.take (i + 1)).foldl stepS 1 = stepS ((r.take i).foldl stepS 1) pc := by rw [tk, List.foldl_append]; rfl
      have okt : RowOk (r.take i) := fun z hz => hok z (List.mem_of_mem_take hz)
      have ms : MxSm 41 ((r.take i).foldl stepM m1) := (fold_sm okt m1_sm).mono (by rw [List.length_take]; omega)
      have ss : Sm 41 ((r.take i).foldl stepS 1) := (scl_sm (n := 1) okt (by unfold Sm; decide)).mono (by rw [List.length_take]; omega)
      obtain ⟨sa, sb, sc, sd⟩ := ms
      have po := ohm_sm (hok.at_ hpc)
      have ht' := sm _ _ ht
      rw [f1, f2]
      generalize (r.take i).foldl stepM m1 = m at *
      generalize (r.take i).foldl stepS 1 = sc0 at *
      refine ⟨t, _, rfl, SqT.of ht', rfl, _, _, rfl, _, _, rfl, rfl, ?_⟩
      refine ⟨_, rfl, rfl, _, rfl, ite2 (fun e => ?_) (fun e => ?_)⟩
      · have r1 : pc.1 = true := wd_inj (r' := true) (V.str.inj (of_decide_eq_true e))
        unfold stepM stepS
        rw [if_pos r1, if_pos r1]
        exact ⟨_, rfl, _, rfl, _, _, rfl, rfl, mx sa po, _, rfl, _, _, rfl, rfl, _, rfl, _, rfl, _, _, rfl, rfl, mx sc po, _, rfl, _, _, rfl, rfl, _, _, rfl, sm, _, _, rfl⟩
      · have r1 : ¬ pc.1 = true := fun z => e (decide_eq_true (by rw [z]; rfl))
        unfold stepM stepS
        rw [if_neg r1, if_neg r1]
        refine ⟨_, rfl, _, rfl, _, _, rfl, rfl, mx sa po, _, rfl, _, _, rfl, rfl, _, rfl, _, rfl, _, _, rfl, rfl, mx sb po, _, rfl, _, rfl, _, _, rfl, rfl, mx sc po, _, rfl, _, _, rfl, rfl, _, rfl, _, rfl, _, _, rfl, rfl, mx sd po, (by show 4 ≤ sizeLine; decide), fun p1 hp1 => ⟨p1, _, rfl, SqT.of upd_same, rfl, _, _, rfl, _, _, rfl, _, _, rfl, _, _, rfl, rfl, ?_⟩⟩
        exact ⟨_, rfl, _, rfl, _, _, rfl, rfl, mx ss po, sm.trans (same_upd hp1), _, _, rfl⟩
    · rintro σ H' ⟨sm, v1, v2, rfl⟩
      rw [hw.1, List.take_length]
      refine ⟨_, rfl, _, rfl, _, rfl, _, rfl, (by show 4 ≤ sizeLine; decide), fun m hm => ⟨_, rfl, (by show 2 ≤ sizeLine; decide), fun p hp => ?_⟩⟩
      have s1 := same_upd (o := .tup (MatT (matR r))) hm
      exact k _ p m ((sm.trans s1).trans (same_upd hp)) upd_same (same_upd hp _ _ upd_same) (sm.free (s1.free hp)) (sm.free hm)
abbrev s_shown_before : Stmt := top 50
theorem sc_shown_before : FnScope ["matrix", "pair", "a", "b", "c", "d", "top", "bottom"] ["matrix", "pair"] (defScope s_shown_before) := ⟨rfl, rfl, rfl, by decide +kernel, rfl, by decide +kernel, by decide +kernel⟩

theorem ok_shown {f : Addr} {fd : FuncData} (F : Fun K "shown_before" "shown_before" s_shown_before f fd) : FnOk P w K mg base CX0 1 f fd ["matrix", "pair"] spShown := by
  refine F.ok sc_shown_before (fun vs H Q E h => ?_) (fun cdv A outer s H vs Q E hr h => ?_)
  · obtain ⟨a, b, m, e, rfl, _⟩ := h
    rfl
  · obtain ⟨a, b, m, e, rfl, ha, hb, ⟨sa, sb, sc, sd⟩, s1, s2, k⟩ := h
    refine ⟨_, (pss_cons (ps_asg (pv 0) (pg_tup rfl (pgs_cons (pg_name (i := 2) sc_shown_before.nd rfl (.inl rfl)) (pgs_cons (pg_name (i := 3) sc_shown_before.nd rfl (.inl rfl)) (pgs_cons (pg_name (i := 4) sc_shown_before.nd rfl (.inl rfl)) (pgs_cons (pg_name (i := 5) sc_shown_before.nd rfl (.inl rfl)) pgs_nil))))))
      (pss_cons (ps_asg (pv 1) (pg_tup rfl (pgs_cons (pg_name (i := 6) sc_shown_before.nd rfl (.inl rfl)) (pgs_cons (pg_name (i := 7) sc_shown_before.nd rfl (.inl rfl)) pgs_nil))))
      (pss_one (ps_ret (pe_tup (pa_cons (pe_op op_add (pe_op op_mulX (pv 2) (pv 6)) (pe_op op_mulX (pv 3) (pv 7))) (pa_cons (pe_op op_add (pe_op op_mulX (pv 4) (pv 6)) (pe_op op_mulX (pv 5) (pv 7))) pa_nil))))))), ?_⟩
    refine ⟨_, rfl, a, _, rfl, SqT.of ha, rfl, _, _, rfl, _, _, rfl, _, _, rfl, _, _, rfl, rfl, ?_⟩
    refine ⟨_, rfl, b, _, rfl, SqT.of hb, rfl, _, _, rfl, _, _, rfl, rfl, ?_⟩
    refine ⟨_, rfl, _, rfl, _, _, rfl, rfl, mx sa s1, _, rfl, _, rfl, _, _, rfl, rfl, mx sb s2, _, _, rfl, rfl, _, rfl, _, rfl, _, _, rfl, rfl, mx sc s1, _, rfl, _, rfl, _, _, rfl, rfl, mx sd s2, _, _, rfl, rfl, (by show 2 ≤ sizeLine; decide), fun p hp => ?_⟩
    exact k _ p (same_upd hp) hp upd_same
abbrev s_piece_text : Stmt := top 52
theorem sc_piece_text : FnScope ["word", "ohms"] ["word", "ohms"] (defScope s_piece_text) := ⟨rfl, rfl, rfl, by decide +kernel, rfl, by decide +kernel, by decide +kernel⟩

theorem ok_ptx {f : Addr} {fd : FuncData} (F : Fun K "piece_text" "piece_text" s_piece_text f fd) : FnOk P w K mg base CX0 1 f fd ["word", "ohms"] spPtx := by
  refine F.ok sc_piece_text (fun vs H Q E h => ?_) (fun cdv A outer s H vs Q E hr h => ?_)
  · obtain ⟨p, rfl, _⟩ := h
    rfl
  · obtain ⟨p, rfl, hp, k⟩ := h
    refine ⟨_, (pss_one (ps_ret (pe_joined (PJ.cons (pe_fmt (pv 0)) (PJ.cons pe_str (PJ.cons (pe_fmt (pv 1)) PJ.nil)))))), ?_⟩
    have ww : OkT 4 (wd p.1) := by
      unfold wd
      split
      · exact OkT.of "rail"
      · exact OkT.of "rung"
    have oh : Sm 200 p.2 := (ohm_sm hp).mono (by decide)
    have o1 : OkT 4 (Str.empty ++ wd p.1) := by
      rw [Str.empty_append]
      exact ww
    have o2 := o1.app (OkT.of " ")
    have o3 := o2.app (ts_ok oh)
    refine ⟨_, rfl, .inl ⟨_, rfl, ww.fits, _, rfl, o1.fits, _, rfl, o2.fits, _, rfl, .inr ⟨_, rfl, Nat.lt_trans (log_sm (by decide) oh) (by decide), _, rfl, o3.fits, ?_⟩⟩⟩
    show Q (.str (((Str.empty ++ wd p.1) ++ Str.ofString " ") ++ ts p.2)) H
    rw [Str.empty_append]
    exact k
abbrev s_piece_with_text : Stmt := top 53
theorem sc_piece_with_text : FnScope ["text", "word", "ohms"] ["text"] (defScope s_piece_with_text) := ⟨rfl, rfl, rfl, by decide +kernel, rfl, by decide +kernel, by decide +kernel⟩

theorem ok_pwt {f : Addr} {fd : FuncData} (F : Fun K "piece_with_text" "piece_with_text" s_piece_with_text f fd) (T : Txt3 K mg tG t1 t2 t3 aO aW J C) (D_piece_text : Df P w K mg base 1 "piece_text" ["word", "ohms"] spPtx) : FnOk P w K mg base CX0 2 f fd ["text"] spPwt := by
  refine F.ok sc_piece_with_text (fun vs H Q E h => ?_) (fun cdv A outer s H vs Q E hr h => ?_)
  · obtain ⟨p, rfl, _⟩ := h
    rfl
  · obtain ⟨p, rfl, hp, k⟩ := h
    refine ⟨_, (pss_cons (ps_for PassesOwn.never rfl (pi_tup (pe_glob (v := .ref aW) rfl T.mgW rfl)) (pg_name (i := 1) sc_piece_with_text.nd rfl (.inl rfl)) (pss_one (ps_for PassesOwn.never rfl (pi_range2 rfl T.range (pa_cons pe_int (pa_cons (pe_op op_add (pe_glob (v := .int 12) rfl T.mgOh ⟨_, rfl⟩) pe_int) pa_nil))) (pg_name (i := 2) sc_piece_with_text.nd rfl (.inl rfl)) (pss_one (ps_if (pt_cmpR op_eq (pv 0) (pe_df D_piece_text (hr.mono (by decide)) (by rfl) (pa_cons (pv 1) (pa_cons (pv 2) pa_nil))) (nomark _)) (pss_one (ps_ret (pe_tup (pa_cons (pv 1) (pa_cons (pv 2) pa_nil))))) pss_nil)))))
      (pss_one (ps_ret pe_non))), ?_⟩
    have hW : SqT K H aW [.str (Str.ofString "rail"), .str (Str.ofString "rung")] := .inr T.wds
    refine ⟨aW, rfl, ⟨_, hW⟩, ?_⟩
    refine for_tup (K := K) (a := aW) (xs := [.str (Str.ofString "rail"), .str (Str.ofString "rung")]) (fun i σ H' => H' = H ∧ (∃ v1 v2, σ = [some (.str (ptx p)), v1, v2]) ∧ (1 ≤ i → p.1 = false) ∧ (2 ≤ i → False)) ⟨rfl, ⟨none, none, rfl⟩, by omega, by omega⟩ (fun i σ H' _ h => by rw [h.1]; exact hW) ?_ ?_
    · rintro i x σ H' hx ⟨rfl, ⟨v1, v2, rfl⟩, i1, i2⟩
      obtain ⟨r, rfl, hr1, hr2⟩ : ∃ r : Bool, x = .str (wd r) ∧ (p.1 ≠ r → (1 ≤ i + 1 → p.1 = false)) ∧ (p.1 ≠ r → (2 ≤ i + 1 → False)) := by
        match i, hx with
        | 0, hx =>
          cases hx
          refine ⟨true, rfl, fun z _ => by simpa using z, fun z y => absurd y (by decide)⟩
        | 1, hx =>
          cases hx
          exact ⟨false, rfl, fun z _ => i1 (by decide), fun z _ => z (i1 (by decide))⟩
      refine ⟨_, _, rfl, rfl, 1, 13, rfl, ⟨by decide, by decide, by decide, by decide⟩, ?_⟩
      refine for_range (lo := 1) (n := Int.toNat (13 - 1)) (fun j σ H'' => H'' = H' ∧ (∃ v2, σ = [some (.str (ptx p)), some (.str (wd r)), v2]) ∧ (p.1 = r → (j : Int) < p.2)) ⟨rfl, ⟨_, rfl⟩, fun _ => by have := hp.1; omega⟩ ?_ ?_
      · rintro j σ H'' hj ⟨rfl, ⟨v2, rfl⟩, hjp⟩
        have hj12 : j < 12 := hj
        have hq : PcOk (r, 1 + (j : Int)) := ⟨by dsimp; omega, by dsimp; omega⟩
        refine ⟨_, rfl, _, rfl, _, rfl, (r, 1 + (j : Int)), rfl, hq, rfl, _, rfl, ite2 (fun e => ?_) (fun e => ?_)⟩
        · have e1 : p = (r, 1 + (j : Int)) := ptx_inj hp hq (V.str.inj (of_decide_eq_true e))
          refine ⟨_, rfl, _, rfl, (by show 2 ≤ sizeLine; decide), fun t ht => ?_⟩
          refine k _ t (same_upd ht) ht ?_
          rw [upd_same, e1]
        · refine ⟨rfl, ⟨_, rfl⟩, fun z => ?_⟩
          have := hjp z
          rcases Int.lt_or_le ((j : Int) + 1) p.2 with y | y
          · omega
          · refine absurd (decide_eq_true ?_) e
            have e2 : p = (r, 1 + (j : Int)) := by
              ext
              · exact z
              · show p.2 = 1 + (j : Int)
                omega
            rw [← e2]
      · rintro σ H'' ⟨rfl, ⟨v2, rfl⟩, hjp⟩
        have ne : p.1 ≠ r := fun z => by
          have h1 : (12 : Int) < p.2 := hjp z
          have := hp.2
          omega
        exact ⟨rfl, ⟨_, _, rfl⟩, hr1 ne, hr2 ne⟩
    · rintro σ H' ⟨rfl, _, _, z⟩
      exact (z (by decide)).elim
end
end RL

set_option maxHeartbeats 1000000
namespace RL
open PySem L2 PySem.Spec PyProof.Rows
def star1 (sp : Sp) : Sp := fun vs H Q E => ∃ ws rest, vs = ws ++ rest ∧ ws.length = 1 ∧ rest.length ≤ sizeLine ∧ ∀ p, H p = Option.none → sp (ws ++ [V.ref p]) (L2.upd H p (.tup rest)) Q E
theorem okStar {P : Program} {w : World} {K : PySem.W.Frag} {mg : Str → Option Value} {base : Heap} {x qual : Str} {st : Stmt} {f : Addr} {fd : FuncData} {N : List Str} {p1 pv : Str} {k : Nat} {sp : Sp} (F : Fun K x qual st f fd) (S : FnScope N ([p1] ++ [pv]) (defScope st))
    (hb : ∀ (kV doc pm cdv ct : Value) (an : Option Addr) (us rest : List Value), us.length = [p1].length → bindArgs (PySem.W.fnOf x qual (defArgs st) (defBody st) (defScope st) .none kV doc pm an cdv ct) ⟨us ++ rest, []⟩ = (newTuple rest >>= fun t => pure ([p1].zip us ++ [(pv, t)])))
    (hbody : ∀ (cdv : Value) (A : Around) (outer : List Env) (s : Shared) (H : Hp) (vs : List V) (Q : VK) (E : XK), Room k (A.deeper (envOfC qual (defScope st) s.heap.objs.size f cdv)) → sp vs H Q E →
      ∃ t, PSs (cxOf CX0 P w K mg base N qual (defScope st) f cdv A outer s H E).nox (defBody st) t ∧ t { nx := fun _ H' => Q .non H', rt := Q } (start N vs) H) : FnR P w K mg base CX0 (k + 1) f (star1 sp) := by
  obtain ⟨oc, od, kV, doc, pm, an, cdv, ct, osl, rfl, lk, hcd⟩ := F.ex
  exact StX.fn_star (ps := [p1]) lk hcd S StX.cxUp_none (hb kV doc pm cdv ct an) fun A outer s H vs Q E hr hsp => by
    obtain ⟨t, h, q⟩ := hbody cdv A outer s H vs Q E hr hsp
    exact ⟨t, h.nox, q⟩
/-! ### a pattern in the heap -/
def FrAt (H : Hp) (a : Addr) (x s : Int) : Prop := H a = some (.tup [.int (low (x, s)).1, .int (low (x, s)).2])
def PF (q m f : Addr) (s : Int) : List (Str × V) := [("row", .ref q), ("matrix", .ref m), ("scale", .int s), ("four", .ref f)]
def PatAt (C : Addr) (H : Hp) (x : Addr) (r : List Pc) : Prop := ∃ (dx q m f : Addr) (ws : List V) (f1 f2 f3 f4 : Addr), H x = some (.ins C dx (PF q m f (sclR r))) ∧ H q = some (.tup ws) ∧ PiecesAt H ws r ∧ H m = some (.tup (MatT (matR r))) ∧
  H f = some (.tup [.ref f1, .ref f2, .ref f3, .ref f4]) ∧ FrAt H f1 (matR r).a (sclR r) ∧ FrAt H f2 (matR r).b (sclR r) ∧ FrAt H f3 (matR r).c (sclR r) ∧ FrAt H f4 (matR r).d (sclR r)
theorem PatAt.same {C : Addr} {H H' : Hp} {x : Addr} {r : List Pc} (h : PatAt C H x r) (s : Same H H') : PatAt C H' x r := by
  obtain ⟨dx, q, m, f, ws, f1, f2, f3, f4, h1, h2, h3, h4, h5, h6, h7, h8, h9⟩ := h
  exact ⟨dx, q, m, f, ws, f1, f2, f3, f4, s _ _ h1, s _ _ h2, h3.same s, s _ _ h4, s _ _ h5, s _ _ h6, s _ _ h7, s _ _ h8, s _ _ h9⟩
theorem PatAt.but {C : Addr} {H H' : Hp} {x c : Addr} {r : List Pc} (h : PatAt C H x r) (hc : CupAt c H) (s : But c H H') : PatAt C H' x r := by
  obtain ⟨dx, q, m, f, ws, f1, f2, f3, f4, h1, h2, h3, h4, h5, h6, h7, h8, h9⟩ := h
  obtain ⟨u, v, hc, _⟩ := hc
  have st : ∀ {a : Addr} {xs : List V}, H a = some (.tup xs) → H' a = some (.tup xs) := fun {a xs} e => s _ _ (ne_of e hc (by intro z; cases z)) e
  exact ⟨dx, q, m, f, ws, f1, f2, f3, f4, s _ _ (ne_of h1 hc (by intro z; cases z)) h1, st h2, h3.but s (fun xs z => by rw [hc] at z; cases z), st h4, st h5, st h6, st h7, st h8, st h9⟩
theorem str_ne {a b : Str} (h : (a == b) = false) : ¬ a = b := fun z => by
  rw [z] at h
  simp at h
theorem nrm : (("row" : Str) == ("matrix" : Str)) = false := by decide +kernel
theorem nrf : (("row" : Str) == ("four" : Str)) = false := by decide +kernel
theorem nmf : (("matrix" : Str) == ("four" : Str)) = false := by decide +kernel
theorem nmr : (("matrix" : Str) == ("row" : Str)) = false := by decide +kernel
theorem nfr : (("four" : Str) == ("row" : Str)) = false := by decide +kernel
theorem wrs : (("row" : Str) == ("scale" : Str)) = false := by decide +kernel
theorem wms : (("matrix" : Str) == ("scale" : Str)) = false := by decide +kernel
theorem wsf : (("scale" : Str) == ("four" : Str)) = false := by decide +kernel
theorem wsr : (("scale" : Str) == ("row" : Str)) = false := by decide +kernel
theorem wsm : (("scale" : Str) == ("matrix" : Str)) = false := by decide +kernel
theorem putScl (a b v : V) : putF "scale" v [("row", a), ("matrix", b)] = ([("row", a), ("matrix", b), ("scale", v)] : List (Str × V)) := by
  unfold putF
  rw [if_neg (str_ne wrs)]
  unfold putF
  rw [if_neg (str_ne wms)]
  rfl
theorem putM (a v : V) : putF "matrix" v [("row", a)] = ([("row", a), ("matrix", v)] : List (Str × V)) := by
  unfold putF
  rw [if_neg (str_ne nrm)]
  rfl
theorem putFour (a b c v : V) : putF "four" v [("row", a), ("matrix", b), ("scale", c)] = ([("row", a), ("matrix", b), ("scale", c), ("four", v)] : List (Str × V)) := by
  unfold putF
  rw [if_neg (str_ne nrf)]
  unfold putF
  rw [if_neg (str_ne nmf)]
  unfold putF
  rw [if_neg (str_ne wsf)]
  rfl
theorem lkM2 (a b c : V) : ([("row", a), ("matrix", b), ("scale", c)] : List (Str × V)).lookup ("matrix" : Str) = some b := by
  simp [List.lookup, nmr]
theorem lkS2 (a b c : V) : ([("row", a), ("matrix", b), ("scale", c)] : List (Str × V)).lookup ("scale" : Str) = some c := by
  simp [List.lookup, wsr, wsm]
theorem lkR (q m f : Addr) {s : Int} : (PF q m f s).lookup ("row" : Str) = some (.ref q) := by
  simp [PF, List.lookup]
theorem lkM (q m f : Addr) {s : Int} : (PF q m f s).lookup ("matrix" : Str) = some (.ref m) := by
  simp [PF, List.lookup, nmr]
def spPI (C J : Addr) : Sp := fun vs H Q _ => ∃ (x dx p : Addr) (r : List Pc), vs = [.ref x, .ref p] ∧ H x = some (.ins C dx []) ∧ RowOk r ∧ 1 ≤ r.length ∧ r.length ≤ 8 ∧
  ((∃ j dj q ws, H p = some (.tup [.ref j]) ∧ H j = some (.ins J dj [("row", .ref q)]) ∧ H q = some (.tup ws) ∧ PiecesAt H ws r) ∨ (∃ ws, H p = some (.tup ws) ∧ PiecesAt H ws r ∧ r.length ≤ 4)) ∧
  ∀ H', But x H H' → PatAt C H' x r → Q .non H'
def LoadAt (H : Hp) (v : V) (e : Int × Int) : Prop := (∃ i, v = .int i ∧ 0 ≤ i ∧ i ≤ 1000000000000 ∧ e = (i, 1)) ∨ (∃ p, v = .ref p ∧ H p = some (.tup [.int e.1, .int e.2]) ∧ ResP e.1 e.2)
theorem LoadAt.pos {H : Hp} {v : V} {e : Int × Int} (h : LoadAt H v e) : Pos2 e := by
  rcases h with ⟨i, _, h1, h2, rfl⟩ | ⟨p, _, _, h⟩
  · exact ⟨h1, by show (0 : Int) ≤ 1; decide, .inr (by show (0 : Int) < 1; decide)⟩
  · rcases h with ⟨h1, _, h2, _⟩ | ⟨h1, h2⟩
    · exact ⟨h1, by omega, .inr (by omega)⟩
    · exact ⟨by omega, by omega, .inl (by omega)⟩
theorem sm_lt {n : Nat} {x : Int} (h0 : 0 ≤ x) (h : x < 2 ^ n) : Sm n x := by
  unfold Sm
  have e : ((2 ^ n : Nat) : Int) = 2 ^ n := by rw [Int.natCast_pow]; rfl
  omega
theorem LoadAt.sm {H : Hp} {v : V} {e : Int × Int} (h : LoadAt H v e) : Sm 41 e.1 ∧ Sm 41 e.2 := by
  have k : ∀ z : Int, 0 ≤ z → z ≤ 1000000000000 → Sm 41 z := fun z h1 h2 => sm_lt h1 (by
    have e : (2 : Int) ^ 41 = 2199023255552 := by decide
    rw [e]
    omega)
  rcases h with ⟨i, _, h1, h2, rfl⟩ | ⟨p, _, _, h⟩
  · exact ⟨k _ h1 h2, k 1 (by decide) (by decide)⟩
  · rcases h with ⟨h1, h2, h3, h4⟩ | ⟨h1, h2⟩
    · exact ⟨k _ h1 h2, k _ (by omega) h4⟩
    · exact ⟨k _ (by omega) (by omega), k _ (by omega) (by omega)⟩
def spCall (C : Addr) : Sp := fun vs H Q _ => ∃ (x : Addr) (v : V) (r : List Pc) (e : Int × Int), vs = [.ref x, v] ∧ PatAt C H x r ∧ RowOk r ∧ r.length ≤ 8 ∧ LoadAt H v e ∧
  ∀ H' p, Same H H' → H p = none → H' p = some (.tup [.int (low ((matR r).app e)).1, .int (low ((matR r).app e)).2]) → Q (.ref p) H'
def spNum (C : Addr) : Sp := fun vs H Q _ => ∃ (x dx q m f : Addr) (s : Int), vs = [.ref x] ∧ H x = some (.ins C dx (PF q m f s)) ∧ Q (.ref f) H
def spAdd (C : Addr) : Sp := fun vs H Q _ => ∃ (x y : Addr) (r r' : List Pc), vs = [.ref x, .ref y] ∧ PatAt C H x r ∧ PatAt C H y r' ∧ RowOk r ∧ RowOk r' ∧ 1 ≤ r.length ∧ 1 ≤ r'.length ∧ r.length + r'.length ≤ 8 ∧
  ∀ H' z, Same H H' → H z = none → PatAt C H' z (r ++ r') → Q (.ref z) H'
def spTurn (C : Addr) : Sp := fun vs H Q _ => ∃ (x : Addr) (r : List Pc), vs = [.ref x] ∧ PatAt C H x r ∧ RowOk r ∧ 1 ≤ r.length ∧ r.length ≤ 8 ∧ ∀ H' z, Same H H' → H z = none → PatAt C H' z r.reverse → Q (.ref z) H'
def rowTx (r : List Pc) : Str := Txt.join (Str.ofString ", ") (r.map ptx)
def spRead (C : Addr) : Sp := fun vs H Q _ => ∃ r : List Pc, vs = [.str (rowTx r)] ∧ RowOk r ∧ 1 ≤ r.length ∧ r.length ≤ 8 ∧ ∀ H' z, Same H H' → H z = none → PatAt C H' z r → Q (.ref z) H'
structure PatD (P : Program) (w : World) (K : PySem.W.Frag) (mg : Str → Option Value) (base : Heap) (C J f : Addr) : Prop where
  m : Mk K C f
  fn : FnR P w K mg base CX0 5 f (star1 (spPI C J))
structure JoinD (P : Program) (w : World) (K : PySem.W.Frag) (mg : Str → Option Value) (base : Heap) (J f : Addr) (fd : FuncData) : Prop where
  m : Mk K J f
  fn : FnOk P w K mg base CX0 1 f fd ["self", "row"] (spJ J)
  bd : Binds K fd ["self", "row"] []
theorem make_pat {C J : Addr} {H : Hp} {q : Addr} {ws : List V} {r : List Pc} {Q : V → Hp → Prop} (hq : H q = some (.tup ws)) (hw : PiecesAt H ws r) (hok : RowOk r) (l1 : 1 ≤ r.length) (l8 : r.length ≤ 8) (k : ∀ H' z, Same H H' → H z = none → PatAt C H' z r → Q (.ref z) H') :
    ∀ j dj, H j = none → H dj = none → dj ≠ j → spJ J [.ref j, .ref q] (upd (upd H dj (.own j)) j (.ins J dj [])) (fun v H2 => v = .non ∧ ∀ z dz, H2 z = none → H2 dz = none → dz ≠ z →
      star1 (spPI C J) [.ref z, .ref j] (upd (upd H2 dz (.own z)) z (.ins C dz [])) (fun v H3 => v = .non ∧ Q (.ref z) H3) E0) E0 := by
  intro j dj nj ndj nej
  refine ⟨j, dj, .ref q, rfl, upd_same, rfl, fun z dz nz ndz nez => ⟨[.ref z], [.ref j], rfl, rfl, (by show 1 ≤ sizeLine; decide), fun p np => ?_⟩⟩
  -- the heap ahead of the pattern's own
  have s1 : Same H (upd (upd (upd H dj (.own j)) j (.ins J dj [])) j (.ins J dj [("row", .ref q)])) := fun b o e => by
    rw [upd_ne (ne_of_none e nj), upd_ne (ne_of_none e nj), upd_ne (ne_of_none e ndj)]
    exact e
  have hj : (upd (upd (upd H dj (.own j)) j (.ins J dj [])) j (.ins J dj [("row", .ref q)])) j = some (.ins J dj [("row", .ref q)]) := upd_same
  generalize upd (upd (upd H dj (.own j)) j (.ins J dj [])) j (.ins J dj [("row", .ref q)]) = H2 at *
  have s2 : Same H2 (upd (upd H2 dz (.own z)) z (.ins C dz [])) := fun b o e => by
    rw [upd_ne (ne_of_none e nz), upd_ne (ne_of_none e ndz)]
    exact e
  have s3 := s2.trans (same_upd (o := .tup [.ref j]) np)
  have hz : (upd (upd (upd H2 dz (.own z)) z (.ins C dz [])) p (.tup [.ref j])) z = some (.ins C dz []) := by
    rw [upd_ne (ne_of_none (upd_same (H := upd H2 dz (.own z)) (a := z) (o := .ins C dz [])) np), upd_same]
  have s13 := s1.trans s3
  refine ⟨z, dz, p, r, rfl, hz, hok, l1, l8, .inl ⟨j, dj, q, ws, upd_same, s3 _ _ hj, s13 _ _ hq, hw.same s13⟩, fun H' b hP => ⟨rfl, k H' z ?_ (s1.free nz) hP⟩⟩
  intro b' o e
  exact b _ _ (ne_of_none (s1 _ _ e) nz) (s13 _ _ e)
section
variable {P : Program} {w : World} {K : PySem.W.Frag} {mg : Str → Option Value} {base : Heap} {tG t1 t2 t3 : Tok} {aO aW J C fP fJ : Addr} {fdJ : FuncData}
def FrsAt (H : Hp) (vs : List V) (es : List Int) (s : Int) : Prop := vs.length = es.length ∧ ∀ (i : Nat) (e : Int), es[i]? = some e → ∃ t, vs[i]? = some (.ref t) ∧ FrAt H t e s
abbrev s_Pattern_init : Stmt := inClass (top 46) 0
theorem sc_Pattern_init : FnScope ["self", "pieces", "entry"] ["self", "pieces"] (defScope s_Pattern_init) := ⟨rfl, rfl, rfl, by decide +kernel, rfl, by decide +kernel, by decide +kernel⟩

theorem ok_pinit {f : Addr} {fd : FuncData} (F : Fun K "__init__" "Pattern.__init__" s_Pattern_init f fd) (T : Txt3 K mg tG t1 t2 t3 aO aW J C) (D_checked_row : Df P w K mg base 4 "checked_row" ["pieces"] (spChk J)) (D_matrix_and_scale : Df P w K mg base 1 "matrix_and_scale" ["row"] spMat) (D_lowest_terms : Df P w K mg base 2 "lowest_terms" ["top", "bottom"] spLow) :
    FnR P w K mg base CX0 5 f (star1 (spPI C J)) := by
  refine okStar (p1 := "self") (pv := "pieces") F sc_Pattern_init (fun _ _ _ _ _ _ => StX.bind_star1 (B := fun us => bindArgs _ ⟨us, []⟩) (fun _ => rfl) (fun _ _ _ => rfl)) (fun cdv A outer s H vs Q E hr h => ?_)
  obtain ⟨x, dx, p, r, rfl, hx, hok, l1, l8, hp, k⟩ := h
  refine ⟨_, (C8.pss_cut (ps_fld (pv 0) (pe_df D_checked_row (hr.mono (by decide)) (by rfl) (pa_cons (pv 1) pa_nil)) rfl)
      (pss_cons (ps_asg (pe_df D_matrix_and_scale (hr.mono (by decide)) (by rfl) (pa_cons (pe_fld (pv 0) rfl) pa_nil)) (pg_tup rfl (pgs_cons (pg_fld (pv 0)) (pgs_cons (pg_fld (pv 0)) pgs_nil))))
      (pss_one (ps_fld (pv 0) (pe_callTy call_tuple_of (by rfl) T.tuple_ (by decide +kernel) (pa_cons (pe_lc (own := [("entry", 2)]) (g := gName 2) (tt := tYes) rfl sc_Pattern_init.nd (pi_tup (pe_fld (pv 0) rfl)) (blkOk_by (N := ["self", "pieces", "entry"]) (sc := defScope s_Pattern_init) (by decide +kernel)) (fun _ _ _ _ _ => pg_name (i := 2) sc_Pattern_init.nd rfl (Or.inl rfl)) (fun _ _ _ _ _ => pts_nil) (fun _ _ _ _ _ => (pe_df D_lowest_terms (hr.mono (by decide)) (by rfl) (pa_cons (pv 2) (pa_cons (pe_fldK (K := K) (pv 0)) pa_nil))))) pa_nil)) rfl)))), ?_⟩
  -- self.row = ..
  have notT : ∀ {H' : Hp} {fs : List (Str × V)}, H' x = some (.ins C dx fs) → ∀ xs, H' x ≠ some (.tup xs) := fun e xs z => by rw [e] at z; cases z
  refine ⟨fun σ' H' => σ' = [some (.ref x), some (.ref p), none] ∧ ∃ (q : Addr) (ws : List V), But x H H' ∧ H' x = some (.ins C dx [("row", .ref q)]) ∧ H' q = some (.tup ws) ∧ PiecesAt H' ws r, ?_, ?_⟩
  · have set1 : ∀ (H1 : Hp) (q : Addr) (ws : List V), Same H H1 → H1 q = some (.tup ws) → PiecesAt H1 ws r → ∃ (q' : Addr) (ws' : List V), But x H (upd H1 x (.ins C dx [("row", .ref q)])) ∧ (upd H1 x (.ins C dx [("row", .ref q)])) x = some (.ins C dx [("row", .ref q')]) ∧ (upd H1 x (.ins C dx [("row", .ref q)])) q' = some (.tup ws') ∧ PiecesAt (upd H1 x (.ins C dx [("row", .ref q)])) ws' r := fun H1 q ws s1 hq hw => by
      have hx1 := s1 _ _ hx
      have b1 : But x H1 (upd H1 x (.ins C dx [("row", .ref q)])) := But.upd
      exact ⟨q, ws, (But.of s1).trans b1, upd_same, b1 _ _ (ne_of hq hx1 (by intro z; cases z)) hq, hw.but b1 (notT hx1)⟩
    rcases hp with ⟨j, dj, q, ws, h1, h2, h3, h4⟩ | ⟨ws, h1, h2, h3⟩
    · exact ⟨_, rfl, p, rfl, .inl ⟨j, dj, q, h1, h2, _, rfl, x, C, dx, _, rfl, hx, T.cl, T.nRow, (by show 0 < 1000; decide), rfl, set1 H q ws (Same.refl _) h3 h4⟩⟩
    · exact ⟨_, rfl, p, rfl, .inr ⟨ws, r, h1, h2, hok, l1, h3, fun H1 s1 => ⟨_, rfl, x, C, dx, _, rfl, s1 _ _ hx, T.cl, T.nRow, (by show 0 < 1000; decide), rfl, set1 H1 p ws s1 (s1 _ _ h1) (h2.same s1)⟩⟩⟩
  rintro σ' H2 ⟨rfl, q, ws, bb1, hx2, hq2, hw2⟩
  -- self.matrix, scale = ..
  refine ⟨_, rfl, x, C, dx, _, _, rfl, hx2, T.cl, T.nRow, rfl, q, ws, r, rfl, hq2, hw2, hok, l8, fun H3 pm m s3 hpm hm npm nm => ?_⟩
  have hx3 := s3 _ _ hx2
  refine ⟨pm, _, rfl, SqT.of hpm, rfl, _, _, rfl, _, rfl, x, C, dx, _, rfl, hx3, T.cl, T.nMat, (by show 1 < 1000; decide), ?_⟩
  rw [putM]
  have b4 : But x H3 (upd H3 x (.ins C dx [("row", .ref q), ("matrix", .ref m)])) := But.upd
  have hx4 : (upd H3 x (.ins C dx [("row", .ref q), ("matrix", .ref m)])) x = some (.ins C dx [("row", .ref q), ("matrix", .ref m)]) := upd_same
  have tp4 : ∀ {a : Addr} {xs : List V}, H3 a = some (.tup xs) → (upd H3 x (.ins C dx [("row", .ref q), ("matrix", .ref m)])) a = some (.tup xs) := fun {a xs} e => b4 _ _ (ne_of e hx3 (by intro z; cases z)) e
  have hm4 := tp4 hm
  have hq4 := tp4 (s3 _ _ hq2)
  have hw4 := (hw2.same s3).but b4 (notT hx3)
  have bb4 := (bb1.trans (But.of s3)).trans b4
  clear tp4
  generalize upd H3 x (.ins C dx [("row", .ref q), ("matrix", .ref m)]) = H4' at *
  refine ⟨_, _, rfl, _, rfl, x, C, dx, _, rfl, hx4, T.cl, T.nScl, (by show 2 < 1000; decide), rfl, ?_⟩
  rw [putScl]
  have b4' : But x H4' (upd H4' x (.ins C dx [("row", .ref q), ("matrix", .ref m), ("scale", .int (sclR r))])) := But.upd
  have hm4 := b4' _ _ (ne_of hm4 hx4 (by intro z; cases z)) hm4
  have hq4 := b4' _ _ (ne_of hq4 hx4 (by intro z; cases z)) hq4
  have hw4 := hw4.but b4' (notT hx4)
  have bb4 := bb4.trans b4'
  have hx4 : (upd H4' x (.ins C dx [("row", .ref q), ("matrix", .ref m), ("scale", .int (sclR r))])) x = some (.ins C dx [("row", .ref q), ("matrix", .ref m), ("scale", .int (sclR r))]) := upd_same
  clear b4 b4'
  generalize upd H4' x (.ins C dx [("row", .ref q), ("matrix", .ref m), ("scale", .int (sclR r))]) = H4 at *
  -- self.four = ..
  have sp := sclR_pos hok
  have ss := sclR_sm hok l8
  obtain ⟨ma, mb, mc, md, _⟩ := matR_ok hok
  obtain ⟨sa, sb, sc, sd⟩ := matR_sm hok l8
  refine ⟨_, rfl, x, C, dx, _, _, rfl, hx4, T.cl, T.nMat, lkM2 _ _ _, m, rfl, ⟨_, SqT.of hm4⟩, fun D hD => ?_⟩
  refine lc_tup (K := K) (a := m) (xs := MatT (matR r)) (fun i H' => But D H4 H' ∧ ∃ vs, H' D = some (.lst vs) ∧ FrsAt H' vs ([(matR r).a, (matR r).b, (matR r).c, (matR r).d].take i) (sclR r)) ⟨But.upd, [], upd_same, rfl, fun i e z => by simp at z⟩ (fun i H' _ h => SqT.of (h.1 _ _ (ne_of_none hm4 hD) hm4)) ?_ ?_
  · rintro i y H' hi ⟨bD, vs, hDi, hF⟩
    refine ⟨rfl, ?_⟩
    unfold tYes
    refine iteT ?_
    obtain ⟨z, rfl, z0, zs, ez, hi4⟩ : ∃ z : Int, y = .int z ∧ 0 ≤ z ∧ Sm 41 z ∧ [(matR r).a, (matR r).b, (matR r).c, (matR r).d].take (i + 1) = [(matR r).a, (matR r).b, (matR r).c, (matR r).d].take i ++ [z] ∧ i < 4 := by
      match i, hi with
      | 0, hi => cases hi; exact ⟨_, rfl, ma, sa, rfl, by decide⟩
      | 1, hi => cases hi; exact ⟨_, rfl, mb, sb, rfl, by decide⟩
      | 2, hi => cases hi; exact ⟨_, rfl, mc, sc, rfl, by decide⟩
      | 3, hi => cases hi; exact ⟨_, rfl, md, sd, rfl, by decide⟩
    have lv : vs.length = i := by
      rw [hF.1, List.length_take]
      show min i 4 = i
      omega
    refine ⟨_, rfl, _, rfl, x, C, dx, _, _, rfl, bD _ _ (ne_of_none hx4 hD) hx4, T.cl, T.nScl, lkS2 _ _ _, z, sclR r, rfl, ⟨z0, Int.le_of_lt sp, .inr sp⟩, zs.mono (by decide), ss.mono (by decide), fun H5 t s5 nt ht => ?_⟩
    have hD5 := s5 _ _ hDi
    refine ⟨vs, hD5, small1000 (by omega), ?_, vs ++ [.ref t], upd_same, ?_⟩
    · intro b o nb e
      rw [upd_ne nb]
      exact s5 _ _ (bD _ _ nb e)
    · rw [ez]
      refine ⟨by rw [List.length_append, List.length_append, hF.1]; rfl, fun j e hj => ?_⟩
      have up : ∀ {a : Addr} {xs : List V}, H5 a = some (.tup xs) → (upd H5 D (.lst (vs ++ [.ref t]))) a = some (.tup xs) := fun {a xs} e => by
        rw [upd_ne (ne_of e hD5 (by intro z; cases z))]
        exact e
      by_cases hji : j < ([(matR r).a, (matR r).b, (matR r).c, (matR r).d].take i).length
      · rw [List.getElem?_append_left hji] at hj
        obtain ⟨u, hu, hf⟩ := hF.2 j e hj
        refine ⟨u, ?_, up (s5 _ _ hf)⟩
        rw [List.getElem?_append_left (by rw [hF.1]; exact hji)]
        exact hu
      · rw [List.getElem?_append_right (by omega)] at hj
        have j0 : j - ([(matR r).a, (matR r).b, (matR r).c, (matR r).d].take i).length = 0 := by
          have := (List.getElem?_eq_some_iff.mp hj).1
          simp at this
          rw [List.length_take] at hji ⊢
          have e4 : ([(matR r).a, (matR r).b, (matR r).c, (matR r).d] : List Int).length = 4 := rfl
          omega
        rw [j0] at hj
        cases hj
        refine ⟨t, ?_, up ht⟩
        rw [List.getElem?_append_right (by rw [hF.1]; omega), hF.1, j0]
        rfl
  · rintro H' ⟨bD, vs, hDn, hF⟩
    have sD : Same H4 H' := fun b o e => bD _ _ (ne_of_none e hD) e
    refine ⟨D, _, rfl, .inl ⟨SqL.of hDn, fun l hl => ?_⟩⟩
    have s6 := sD.trans (same_upd (o := .tup vs) hl)
    have hx6 := s6 _ _ hx4
    refine ⟨_, rfl, x, C, dx, _, rfl, hx6, T.cl, T.nFour, (by show 3 < 1000; decide), ?_⟩
    rw [putFour]
    have b7 : But x (upd H' l (.tup vs)) (upd (upd H' l (.tup vs)) x (.ins C dx (PF q m l (sclR r)))) := But.upd
    have tp : ∀ {a : Addr} {xs : List V}, (upd H' l (.tup vs)) a = some (.tup xs) → (upd (upd H' l (.tup vs)) x (.ins C dx (PF q m l (sclR r)))) a = some (.tup xs) := fun {a xs} e => b7 _ _ (ne_of e hx6 (by intro z; cases z)) e
    have hF' : FrsAt H' vs [(matR r).a, (matR r).b, (matR r).c, (matR r).d] (sclR r) := hF
    obtain ⟨g1, e1, a1⟩ := hF'.2 0 _ rfl
    obtain ⟨g2, e2, a2⟩ := hF'.2 1 _ rfl
    obtain ⟨g3, e3, a3⟩ := hF'.2 2 _ rfl
    obtain ⟨g4, e4, a4⟩ := hF'.2 3 _ rfl
    have ev : vs = [.ref g1, .ref g2, .ref g3, .ref g4] := by
      match vs, hF'.1, e1, e2, e3, e4 with
      | [_, _, _, _], _, e1, e2, e3, e4 =>
        cases e1
        cases e2
        cases e3
        cases e4
        rfl
    subst ev
    have sl := same_upd (o := .tup [.ref g1, .ref g2, .ref g3, .ref g4]) hl
    exact k _ ((bb4.trans (But.of s6)).trans b7) ⟨dx, q, m, l, ws, g1, g2, g3, g4, upd_same, tp (s6 _ _ hq4), (hw4.same s6).but b7 (notT hx6), tp (s6 _ _ hm4), tp upd_same, tp (sl _ _ a1), tp (sl _ _ a2), tp (sl _ _ a3), tp (sl _ _ a4)⟩
end
end RL

set_option maxHeartbeats 2000000
/-! An own exception class called with arguments by position and by keyword, its __init__ a def. -/
namespace PySem
namespace RLX
open PySem.W PySem.Calls PyProof.Rows PySem.HandSPX
section
variable {prog : Program} {w : World} {M : Model} {A : Around} {E : Value → Shared → Prop} {R : Result → Shared → Prop} {h : Heap} {g : Array GenState} {d : Drawn} {t : Nat} {os : OsState}
variable {nm q : Str} {C N : Addr} {bs bm bmB : List Value} {hdct : Bool} {sn : List Str} {sub : List Value} {ab : Bool} {col : Option Bool} {dd : Option Addr} {k0 k1 k2 k3 k5 : Option Value} {B newId initId : String}
theorem chk_new (F : ExcBaseFacts B newId initId bmB) (hT : ∀ X : String, bm.contains (.type X) = bmB.contains (.type X)) {rest : List Value} {kw : List (Str × Value)} {Q : Unit → Shared → Prop}
    (hC : h.get? C = some (excClassObj nm q C N bs bm hdct sn sub ab col dd k0 k1 k2 k3 k5 newId)) (hq : Q () ⟨h, g, d, t, os⟩) : wpAny M A (checkBuiltinCall newId ⟨.ref C :: rest, kw⟩) Q E ⟨h, g, d, t, os⟩ := by
  have yB : (Value.ref C :: bm).contains (.type B) = true := by
    rw [List.contains_cons, hT, F.hasB, Bool.or_true]
  have st := F.noStar
  simp only [checkBuiltinCall, F.newKind, F.newSplit, F.newRow]
  repeat (first
    | refine wpAny_loadPart_at hC ?_
    | (refine wpAny_isSubtype_exc hC ?_; rw [yB])
    | refine wpAny_staticBase_exc hC ?_
    | refine wpAny_madeBy_exc hC ?_
    | simp only [bne_self_eq_false, Bool.false_eq_true, if_false]
    | wp_step)
  exact hq
abbrev laid2 (C : Addr) (rest : List Value) (h : Heap) : Heap := (h.push (W.kdv_tup rest)).push (excO C h.objs.size)
theorem run_new (F : ExcBaseFacts B newId initId bmB) (hT : ∀ X : String, bm.contains (.type X) = bmB.contains (.type X)) {rest : List Value} {kw : List (Str × Value)}
    (hC : h.get? C = some (excClassObj nm q C N bs bm hdct sn sub ab col dd k0 k1 k2 k3 k5 newId))
    (hq : R (.ok (.ret (.ref (h.objs.size + 1)))) ⟨laid2 C rest h, g, d, t, os⟩) (hz : rest.length ≤ sizeLine) :
    codeAny (model prog w) A (.builtin newId ⟨.ref C :: rest, kw⟩) R ⟨h, g, d, t, os⟩ := by
  have en := F.ends
  have yB : (Value.ref C :: bm).contains (.type B) = true := by
    rw [List.contains_cons, hT, F.hasB, Bool.or_true]
  have yA : (Value.ref C :: bm).contains (.type "AttributeError") = false := by
    rw [List.contains_cons, hT, F.noAttr]
    rfl
  have yN : (Value.ref C :: bm).contains (.type "NameError") = false := by
    rw [List.contains_cons, hT, F.noName]
    rfl
  refine codeAny_builtinAt F.entry ?_
  unfold Builtin.«BaseException.__new__»
  refine wpAt_bind ?_
  show wpAt _ _ _ (stack >>= _) _ _ _
  refine wpAt_bind (wpAt_stack fun p below => wpAt_of_wpAny ?_)
  wp_walk
  refine wpAt_of_wpAny ?_
  rw [F.owner]
  repeat (first
    | with_reducible refine wpAny_madeHere_exc F.canon hC ?_
    | with_reducible refine wpAny_loadPart_at hC ?_
    | (with_reducible refine wpAny_isSubtype_exc hC ?_; first | rw [yB] | rw [yA] | rw [yN])
    | wp_step)
  show R _ _
  rw [Heap.size_push]
  exact hq
theorem run_typeCall (F : ExcBaseFacts B newId initId bmB) (hT : ∀ X : String, bm.contains (.type X) = bmB.contains (.type X)) {rest : List Value} {kw : List (Str × Value)} {fI : Addr} {Q : Fin → Shared → Prop}
    (hC : h.get? C = some (excClassObj nm q C N bs bm hdct sn sub ab col dd k0 k1 k2 k3 k5 newId))
    (hi : W.Looks (model prog w) h (typeLookup (.ref C) "__init__") (some (.ref fI))) (hb : ∀ self, W.Looks (model prog w) h (bindSpecial (.ref fI) self) (.ref fI, [self])) (hz : rest.length ≤ sizeLine)
    (hq : codeAny (model prog w) A (.call (.ref fI) ⟨.ref (h.objs.size + 1) :: rest, kw⟩)
      (fun r s' => match r with | .ok (.ret v) => v = .none ∧ Q (.done (.ret (.ref (h.objs.size + 1)))) s' | .ok _ => False | .error e => E e s')
      ⟨laid2 C rest h, g, d, t, os⟩) :
    wpAny (model prog w) A (Builtin.«type.__call__» ⟨.ref C :: rest, kw⟩) Q E ⟨h, g, d, t, os⟩ := by
  repeat (first
    | with_reducible refine wpAny_loadPart_at hC ?_
    | with_reducible refine wpAny_madeBy_exc hC ?_
    | wp_step)
  refine codeAny_call_builtin_code (Code.quiet_builtin _ F.quiet) (chk_new F hT hC (run_new F hT hC ?_ hz))
  show wpAny _ _ _ _ _ _
  have kp : ∀ b o, h.get? b = some o → (laid2 C rest h).get? b = some o := fun b o e => Heap.get?_push_of_some _ (Heap.get?_push_of_some _ e)
  have hC1 := kp _ _ hC
  have hget : (laid2 C rest h).get? (h.objs.size + 1) = some (excO C h.objs.size) := by heap_get
  have yC : (Value.ref C :: bm).contains (.ref C) = true := by simp
  have i1 := hi.keeps kp
  have b1 := (hb (.ref (h.objs.size + 1))).keeps kp
  unfold isInstance
  repeat (first
    | with_reducible refine wpAny_loadPart_at hget ?_
    | (with_reducible refine wpAny_isSubtype_exc hC1 ?_; rw [yC])
    | wp_step)
  show wpAny _ _ (typeLookup (.ref C) _) _ _ _
  refine i1.at (wpAny_holding (wpAny_bind (b1.at (wpAny_bind (wpAny_call (codeAny_mono hq fun r s' z => ?_))))))
  rcases r with e | (v | _ | _ | _) <;> first | exact z | exact z.elim | skip
  obtain ⟨rfl, z⟩ := z
  first
    | exact wpAny_pure (wpAny_pure z)
    | (wp_walk; exact z)
theorem chk_typeCall {rest : List Value} {kw : List (Str × Value)} {Q : Unit → Shared → Prop} (hC : h.get? C = some (excClassObj nm q C N bs bm hdct sn sub ab col dd k0 k1 k2 k3 k5 newId))
    (hq : Q () ⟨h, g, d, t, os⟩) : wpAny M A (checkBuiltinCall "type.__call__" ⟨.ref C :: rest, kw⟩) Q E ⟨h, g, d, t, os⟩ := by
  have f3 := tc_sub
  have ty : (⟨h, g, d, t, os⟩ : Shared).TypeIs (.ref C) "type" := ⟨_, hC, rfl⟩
  simp only [checkBuiltinCall, tc_kind, tc_split]
  repeat (any_goals (first
    | assumption
    | with_reducible refine wpAny_loadPart_at hC ?_
    | with_reducible refine wpAny_onRaise ?_
    | with_reducible refine wpAny_map ?_
    | wp_step))
theorem run_make (F : ExcBaseFacts B newId initId bmB) (hT : ∀ X : String, bm.contains (.type X) = bmB.contains (.type X)) {rest : List Value} {kw : List (Str × Value)} {fI : Addr}
    (hC : h.get? C = some (excClassObj nm q C N bs bm hdct sn sub ab col dd k0 k1 k2 k3 k5 newId))
    (hi : W.Looks (model prog w) h (typeLookup (.ref C) "__init__") (some (.ref fI))) (hb : ∀ self, W.Looks (model prog w) h (bindSpecial (.ref fI) self) (.ref fI, [self])) (hz : rest.length ≤ sizeLine)
    (hq : codeAny (model prog w) (A.under (.builtin "type.__call__" ⟨.ref C :: rest, kw⟩)) (.call (.ref fI) ⟨.ref (h.objs.size + 1) :: rest, kw⟩) (W.InitBack (h.objs.size + 1) R) ⟨laid2 C rest h, g, d, t, os⟩) :
    codeAny (model prog w) A (.call (.ref C) ⟨rest, kw⟩) R ⟨h, g, d, t, os⟩ := by
  have f1 := tc_lookup
  have f2 := tc_bind (.ref C)
  have ty : (⟨h, g, d, t, os⟩ : Shared).TypeIs (.ref C) "type" := ⟨_, hC, rfl⟩
  refine codeAny_of_tree ?_
  show wpAny _ _ (callAny (.ref C) _) _ _ _
  repeat (any_goals (first
    | assumption
    | with_reducible refine wpAny_loadPart_at hC ?_
    | wp_step))
  refine ⟨rfl, ?_⟩
  refine codeAny_call_builtin_at (Code.quiet_builtin _ (by decide +kernel)) entry_typeCall (chk_typeCall hC (run_typeCall F hT hC hi hb hz (codeAny_mono hq fun r s' z => ?_)))
  rcases r with e | (v | _ | _ | _) <;> exact z
end
end RLX
end PySem

set_option maxHeartbeats 2000000
/-! Own exceptions held as values: made (by position, by keyword), stored into, read, asked for their class. -/
namespace RL
open PySem L2 PySem.Spec PyProof.Rows Builtin Builtin.ObjectAttr
def xcB (K : PySem.W.Frag) (C : Addr) (bmB : List Value) (nid : String) : Bool :=
  PySem.W.excInitIn K C bmB nid && PySem.W.excOver K C bmB && PySem.W.hasDictIn K C && PySem.W.keepIn K (.ref C) && (PySem.W.clsIn K C).isSome &&
  decide (PySem.W.findIn K (.ref C) "__setattr__" = some (some (.builtin "object.__setattr__"))) &&
  decide (PySem.W.findIn K (.ref C) "__getattribute__" = some (some (.builtin "BaseException.__getattribute__"))) &&
  decide (PySem.W.findIn K (.ref C) "__getattr__" = some none) &&
  decide (PySem.W.findIn K (.ref C) "__class__" = some (some (.builtin "object.__class__"))) &&
  decide (PySem.W.subIn K (.ref C) (.type "BaseException") = some true) && decide (PySem.W.mroIn K C (.type "object") = some true) &&
  decide (PySem.W.findIn K (.ref C) "given" = some none) && decide (PySem.W.findIn K (.ref C) "index" = some none) && decide (PySem.W.findIn K (.ref C) "most" = some none)
structure XC (K : PySem.W.Frag) (C : Addr) : Prop where
  base : ∃ (B nid iid : String) (bmB : List Value), ExcBaseFacts B nid iid bmB ∧ StoreFacts B bmB "object.__setattr__" "object" ∧ PySem.W.excInitIn K C bmB nid = true ∧ PySem.W.excOver K C bmB = true
  hd : PySem.W.hasDictIn K C = true
  kp : PySem.W.keepIn K (.ref C) = true
  cl : (PySem.W.clsIn K C).isSome = true
  sa : PySem.W.findIn K (.ref C) "__setattr__" = some (some (.builtin "object.__setattr__"))
  ga : PySem.W.findIn K (.ref C) "__getattribute__" = some (some (.builtin "BaseException.__getattribute__"))
  gg : PySem.W.findIn K (.ref C) "__getattr__" = some none
  ca : PySem.W.findIn K (.ref C) "__class__" = some (some (.builtin "object.__class__"))
  sub : PySem.W.subIn K (.ref C) (.type "BaseException") = some true
  mo : PySem.W.mroIn K C (.type "object") = some true
  n1 : PySem.W.findIn K (.ref C) "given" = some none
  n2 : PySem.W.findIn K (.ref C) "index" = some none
  n3 : PySem.W.findIn K (.ref C) "most" = some none
theorem xcB_ok {K : PySem.W.Frag} {C : Addr} {bmB : List Value} {B nid iid : String} (F : ExcBaseFacts B nid iid bmB) (S : StoreFacts B bmB "object.__setattr__" "object") (h : xcB K C bmB nid = true) : XC K C := by
  unfold xcB at h
  simp only [Bool.and_eq_true, decide_eq_true_eq] at h
  obtain ⟨⟨⟨⟨⟨⟨⟨⟨⟨⟨⟨⟨⟨h1, h2⟩, h3⟩, h4⟩, h5⟩, h6⟩, h7⟩, h8⟩, h9⟩, h10⟩, h11⟩, h12⟩, h13⟩, h14⟩ := h
  exact ⟨⟨B, nid, iid, bmB, F, S, h1, h2⟩, h3, h4, h5, h6, h7, h8, h9, h10, h11, h12, h13, h14⟩
structure XK0 (K : PySem.W.Frag) : Prop where
  cn : PySem.W.specialIn K (.builtin "object.__class__") "__get__" = some (some (.builtin "getset_descriptor.__get__"))
  ct : PySem.W.takesIn K (.builtin "object.__class__") = some true
section
variable {prog : Program} {w : World} {A : Around} {R : Result → Shared → Prop} {hp : Heap} {g : Array GenState} {d : Drawn} {t : Nat} {os : OsState} {B : String} {bmB : List Value} {C : Addr}
theorem x_store {K : PySem.W.Frag} {name : Str} {tk : Tok} {v : Value} {x t1 : Addr} (SF : StoreFacts B bmB "object.__setattr__" "object") (X : K.In hp) (hx : hp.get? x = some (PySem.HandSPX.excO C t1))
    (ov : PySem.W.excOver K C bmB = true) (hh : PySem.W.hasDictIn K C = true) (ha : PySem.W.findIn K (.ref C) name = some none)
    (hq : ∀ h' tk' dx, (∀ b o, b ≠ x → hp.get? b = some o → h'.get? b = some o) → hp.objs.size ≤ dx → dx ≠ x → h'.get? x = some { PySem.HandSPX.excO C t1 with dict := some dx } →
      h'.Ns1 dx (fun y => if y = name then some v else none) → R (.ok (.ret .none)) ⟨h', g, d, tk', os⟩) :
    codeAny (model prog w) A (.call (.builtin "object.__setattr__") ⟨[.ref x, .str name tk, v], []⟩) R ⟨hp, g, d, t, os⟩ := by
  have tkr : PySem.W.takerIn K C name = some none := by
    unfold PySem.W.takerIn
    rw [ha]
    rfl
  obtain ⟨cd, hc, hd'⟩ := PySem.W.any_some hh
  have hxs : x ≠ hp.objs.size := Nat.ne_of_lt (Heap.lt_size hx)
  refine PySem.W.osa_openX (od := none) SF X ⟨hx, rfl, rfl, trivial⟩ ov tkr fun b => ?_
  refine wpAny_bind (wpAny_pure (wpAny_bind (PySem.W.instanceDict_exc (t := t1) (c2 := .none) hx (PySem.W.looks_clsIn X hc) hd' ?_)))
  show wpAny _ _ (storeInDict hp.objs.size (.str name tk) name v) _ _ _
  refine PySem.HandSPX.store_in_new ?_ ?_
  · exact ⟨_, #[], _, (Heap.get?_update_ne _ _ _ _ hxs.symm).trans (Heap.get?_push_at rfl rfl), rfl, fun e he => absurd he (by simp), fun _ => rfl⟩
  · intro h' tk' hn' hs
    have hx1 : (hp.push (PySem.W.dictOf [] 0)).get? x = some (PySem.HandSPX.excO C t1) := Heap.get?_push_of_some _ hx
    refine hq h' tk' hp.objs.size (fun b o hb ho => ?_) (Nat.le_refl _) hxs.symm ?_ hn'
    · exact (hs.2 b (Nat.ne_of_lt (Heap.lt_size ho))).trans ((Heap.get?_update_ne _ _ _ _ hb).trans (Heap.get?_push_of_some _ ho))
    · exact (hs.2 x hxs).trans (Heap.get?_update_self _ hx1 rfl)
end
section
variable {X : Cx} {pins : List (Addr × Obj)} {σ : L2.St} {H : Hp} {s : Shared} {a C dx : Addr} {f : Str} {y : V} {u : Value} {Q : Unit → Shared → Prop} {E : Value → Shared → Prop} {A : Around}
theorem x_set (T : XC X.K C) (I : Inv X pins σ H s) (e : H a = some (exo a C none)) (hno : PySem.W.findIn X.K (.ref C) f = some none) (ry : RelV y u)
    (h : ∀ dx s', H dx = none → dx ≠ a → Inv X pins σ (upd (upd H dx (exd dx [(f, y)])) a (exo a C (some dx))) s' → Q () s') : wpAny (model X.prog X.w) A (setAttr (.ref a) f u) Q E s := by
  obtain ⟨B, nid, iid, bmB, FB, SF, _, ov⟩ := T.base
  obtain ⟨t1, ho⟩ := exo_at I.hok e
  obtain ⟨hp, g, d, t, os⟩ := s
  refine PySem.W.set_plain I.kIn (ox := PySem.HandSPX.excO C t1) (od := none) ⟨ho, rfl, rfl, trivial⟩ T.sa ?_
  refine x_store SF I.kIn ho ov T.hd hno (fun h' tk' dx k dn dne hx hn => ?_)
  have hnd : H dx = none := I.hok.fresh dn
  have nd : ∀ {b : Addr} {o : Obj}, hp.get? b = some o → b ≠ dx := fun {b o} q z => absurd (Heap.lt_size q) (by rw [z]; exact Nat.not_lt.mpr dn)
  have na : ∀ {b : Addr}, H b = none → b ≠ a := fun {b} n z => by
    rw [z, e] at n
    cases n
  have there : ∀ b o, hp.get? b = some o → ∃ o', h'.get? b = some o' := fun b o q => by
    by_cases hb : b = a
    · exact ⟨_, by rw [hb]; exact hx⟩
    · exact ⟨o, k b o hb q⟩
  refine h dx _ hnd dne (I.un (t' := tk') (Un.mk (fun b o q n _ _ => k b o (na n) q) (fun b o q n _ _ => ⟨o.slots, k b o (na n) q⟩) (fun b o q n _ => by rw [upd_ne (na n), upd_ne (nd q)]; exact n) (fun b o q _ => there b o q)
    (fun b xs q => by rw [upd_ne (at_ne e q exo_tup), upd_ne (ne_of_none q hnd)]; exact q) (fun b o v q => by rw [upd_ne (at_ne e q exo_frz), upd_ne (ne_of_none q hnd)]; exact q)
    (fun b ps q => ⟨#[], by rw [upd_ne (at_ne e q exo_tbl), upd_ne (ne_of_none q hnd), q]; simp⟩)) fun b o q => ?_)
  by_cases hb : b = a
  · rw [hb, upd_same] at q
    cases q
    rw [hb]
    exact exo_ok hx
  rw [upd_ne hb] at q
  by_cases hd : b = dx
  · rw [hd, upd_same] at q
    cases q
    rw [hd]
    exact exd_ok hn (relO_put (fs := []) ry fun g => True.intro)
  rw [upd_ne hd] at q
  refine (I.hok b o q).stay (fun c v hc z => k c v ?_ z) (fun c hc => ?_) (fun c xs hc => ?_)
  · rcases hc with hc | hc
    · rw [hc]
      exact hb
    · exact at_ne e hc exo_own
  · rw [upd_ne (at_ne e hc exo_own), upd_ne (ne_of_none hc hnd)]
    exact hc
  · rw [upd_ne (at_ne e hc exo_tup), upd_ne (ne_of_none hc hnd)]
    exact hc
end
def tXst (K : PySem.W.Frag) (f : Str) (to te : TE) : TS := fun D σ H => te σ H fun y H1 => to σ H1 fun x H2 => ∃ a C : Addr, x = .ref a ∧ XC K C ∧ PySem.W.findIn K (.ref C) f = some none ∧ H2 a = some (exo a C none) ∧
  ∀ dx, H2 dx = none → dx ≠ a → D.nx σ (upd (upd H2 dx (exd dx [(f, y)])) a (exo a C (some dx)))
section
variable {X : Cx} {o e : Expr} {es : List Expr} {to te : TE} {ta tk : TA} {f : Str} {p p' p1 p2 pos : Pos}
theorem ps_xst (ho : PE X o to) (he : PE X e te) (hs : swapsWith e (some (.Attribute o f p')) pos.line X.env = pure false := by rfl) : PS X (.Assign [.Attribute o f p'] e pos) (tXst X.K f to te) := by
  refine ⟨fun pins s σ H D I h => plainObj_wpAny_Assign_Attribute (thn (he.run pins s σ H _ I h) fun v s1 ⟨y, H1, I1, r1, q1⟩ => thn (ho.run pins s1 σ H1 _ I1 q1) fun u s2 ⟨x, H2, I2, r2, a, C, ex, T, hno, ea, q⟩ => ?_) hs⟩
  subst ex
  cases (show u = Value.ref a from r2)
  exact x_set T I2 ea hno r1 fun dx s' n ne J => ⟨σ, _, J, q dx n ne⟩
theorem pe_xbase {C g : Addr} {mc : Value} {fd : FuncData} {ps : List Str} {sp : Sp} {k : Nat} {x m : Str} {pl : Sem Bool} (gC : X.mg x = some (.ref C)) (hg : Gl X x) (r : ClX.CRead X.K C mc) (hf : PySem.W.findCls X.K (.ref C) mc m = some (.val (.ref g)))
    (kp : PySem.W.keepIn X.K (.ref g) = true) (F : FnOk X.prog X.w X.K X.mg X.base CX0 k g fd ps sp) (hr : Room k X.A) (hb : Binds X.K fd ps []) (ha : PA X (e :: es) ta)
    (hc : eval (.Call (.Attribute (.Name x p1) m p2) (e :: es) [] pos) X.env = (do
      let ov ← eval (.Name x p1) X.env
      standAt p2.atName
      let (f, first) ← holding [ov] (getMethod ov m pl)
      callWith pos f first (backTo pos (starEach (e :: es) X.env)) (backToKw pos (keywordEach [] X.env))) := by rfl)
    (hdb : (x == ("__debug__" : Str)) = false := by decide) (he : starEach (e :: es) X.env = (false, eval e X.env) :: starEach es X.env := by rfl) (hpl : (backTo pos (starEach es X.env)).any (·.1) = false := by rfl) :
    PE X (.Call (.Attribute (.Name x p1) m p2) (e :: es) [] pos) (tCall sp [] E0 ta) := by
  refine ⟨fun pins s σ H Q I h => PySem.W.methodCall_KW (ld_glob I hg gC (PySem.W.method_cls I.kIn r.ga (ClX.getcval_ok (v := .ref g) I r ⟨hf, rfl⟩ fun s0 I0 => ?_)) hdb) hc⟩
  refine PySem.W.callWith_K (h₀ := X.base) I0.ok.mod.kin kp (thn (ha.run pos pins s0 σ H _ I0 h) fun us s1 ⟨vs, H1, I1, r1, q⟩ => ⟨I1.kIn, ?_⟩) he hpl
  exact run_fn F hr hb .nil pass0 I1 r1 q
def tXmk (C : Addr) (n m : Nat) (sp : Sp) (gV : List V → List V → List V) (t tk : TA) : TE := fun σ H Q => t σ H fun vs H1 => tk σ H1 fun zs H2 => vs.length = n ∧ zs.length = m ∧
  ∀ a, H2 a = none → sp (gV (.ref a :: vs) zs) (upd H2 a (exo a C none)) (fun v H3 => v = .non ∧ Q (.ref a) H3) E0
structure XM (P : Program) (w : World) (K : PySem.W.Frag) (mg : Str → Option Value) (base : Heap) (k : Nat) (C : Addr) (ps : List Str) (sp : Sp) : Prop where
  xc : XC K C
  ex : ∃ (g : Addr) (fd : FuncData), PySem.W.findIn K (.ref C) "__init__" = some (some (.ref g)) ∧ PySem.W.isFn K (.ref g) = true ∧ FnOk P w K mg base CX0 k g fd ps sp ∧ Binds K fd ps [] ∧
    ∀ y z, ps = [y, z] → KBn K fd ps 1 [z] (fun us ws => us ++ ws) (fun vs zs => vs ++ zs)
/-! ### asked and read -/
def Exo (H : Hp) (a C : Addr) : Prop := H a = some (exo a C none) ∨ ∃ (dx : Addr) (fs : List (Str × V)), H a = some (exo a C (some dx)) ∧ H dx = some (exd dx fs)
def rIsX (K : PySem.W.Frag) : List V → Hp → VK → Prop := fun xs H Q => ∃ (a C : Addr) (c : V) (u : Value) (b : Bool), xs = [.ref a, c] ∧ ClsV c u ∧ XC K C ∧ Exo H a C ∧ PySem.W.kitOne K (.ref C) u = some b ∧ Q (.bl b) H
def tXfd (K : PySem.W.Frag) (f : Str) (te : TE) : TE := fun σ H Q => te σ H fun x H1 => ∃ (a C dx : Addr) (fs : List (Str × V)) (v : V), x = .ref a ∧ XC K C ∧ PySem.W.findIn K (.ref C) f = some none ∧ H1 a = some (exo a C (some dx)) ∧ H1 dx = some (exd dx fs) ∧ fs.lookup f = some v ∧ Q v H1
end
end RL

set_option maxHeartbeats 1000000
/-! repr of plain things: None, bools, ints, texts, lists, tuples, flat dicts. -/
namespace RL
open PySem L2 PySem.Spec PyProof.Rows
def keyD : Key → PyData
  | .inl i => .int i
  | .inr x => .str x
inductive Dq (K : PySem.W.Frag) (H : Hp) : V → PyData → Prop
  | dp {v : V} {d : PyData} : Dp K H v d → d.hasDict = false → Dq K H v d
  | dk {a : Addr} {kvs : List (Key × Int)} : H a = some (.dK (kvs.map fun p => (p.1, V.int p.2))) → Dq K H (.ref a) (.dict (kvs.map fun p => (keyD p.1, .int p.2)))
theorem dk_reads {P : Program} {w : World} {h : Heap} : ∀ {kvs : List (Key × Int)} {vs : List (Key × Value)} {es : List DictEntry}, KV (kvs.map fun p => (p.1, V.int p.2)) vs → Pairs (mixKind P w) es vs →
    ReadsAll h (es.map (·.key)) ((kvs.map fun p => (keyD p.1, PyData.int p.2)).map (·.1)) [] ∧ ReadsAll h (es.map (·.val)) ((kvs.map fun p => (keyD p.1, PyData.int p.2)).map (·.2)) []
  | [], _, _, r, q => by
    cases r
    cases q
    exact ⟨.nil, .nil⟩
  | (k, i) :: kvs, _, _, r, q => by
    cases r with
    | cons r1 r2 =>
      cases q with
      | cons q1 q2 q3 =>
        obtain ⟨e1, e2⟩ := r1
        obtain ⟨h1, h2⟩ := dk_reads (P := P) (w := w) (h := h) r2 q3
        refine ⟨?_, ?_⟩
        · have q1' := q1
          rw [mixKind_is, ← e1] at q1'
          rcases keyIs_shape q1' with ⟨j, t, ek, ev⟩ | ⟨x, t, ek, ev⟩
          · have ek : k = _ := ek
            subst ek
            rw [List.map_cons, ev]
            exact ReadsAll.cons (Reads.int _ _) h1
          · have ek : k = _ := ek
            subst ek
            rw [List.map_cons, ev]
            exact ReadsAll.cons (Reads.str _ _) h1
        · obtain ⟨t, e2⟩ := e2
          rw [List.map_cons, q2, e2]
          exact ReadsAll.cons (Reads.int _ _) h2
section
variable {X : Cx}
def rRp (K : PySem.W.Frag) : List V → Hp → VK → Prop := fun vs H Q => ∃ (v : V) (d : PyData), vs = [v] ∧ Dq K H v d ∧ d.showable = true ∧ d.depth ≤ 40 ∧ d.shown.length ≤ sizeLine ∧ Q (.str d.shown) H
theorem cr_rp (hG : X.A.guards = some []) (hu : X.A.units + 64 < cLine) : CallR X (.builtin "repr") (rRp X.K) := by
  intro pins s σ H vs us Q I r h
  obtain ⟨v, d, rfl, hd, h1, h3, h4, q⟩ := h
  obtain ⟨u, rfl, ru⟩ : ∃ u, us = [u] ∧ RelV v u := by
    cases r with
    | cons r1 r2 =>
      cases r2
      exact ⟨_, rfl, r1⟩
  cases hd with
  | dp hp h2 =>
    cases hp with
    | non =>
      cases (show u = Value.none from ru)
      exact PySem.P.repr_of_none ⟨.str "None", H, I.tok _, ⟨_, rfl⟩, q⟩
    | bl b =>
      cases (show u = Value.bool b from ru)
      exact PySem.P.repr_of_bool ⟨.str (PyData.bool b).shown, H, I.tok _, ⟨_, rfl⟩, q⟩
    | int i =>
      obtain ⟨t, rfl⟩ := ru
      exact PySem.P.repr_of_int (of_decide_eq_true h1) ⟨.str (PyData.int i).shown, H, I.tok _, ⟨_, rfl⟩, q⟩
    | str x =>
      obtain ⟨t, rfl⟩ := ru
      exact PySem.P.repr_of_str ⟨.str (PyData.str x).shown, H, I.tok _, ⟨_, rfl⟩, q⟩ h4
    | @lst a xs ds hs ha =>
      exact cr_repr hG hu pins s σ H _ _ Q I (.cons ru .nil) ⟨a, _, rfl, .lst hs ha, h1, h2, h3, h4, q⟩
    | @tup a xs ds hs ha =>
      exact cr_repr hG hu pins s σ H _ _ Q I (.cons ru .nil) ⟨a, _, rfl, .tup hs ha, h1, h2, h3, h4, q⟩
  | @dk a kvs ha =>
    cases (show u = Value.ref a from ru)
    obtain ⟨_, hsys, vs, kv, o, es, ep, ho, hc, hdat, _, hp, _⟩ := (show ObjOk X.prog X.w H s.heap a (.dK _) from I.hok a _ ha)
    obtain ⟨g1, g2⟩ := dk_reads (h := s.heap) kv hp
    refine repr_of_reads' (h₀ := s.heap) (Reads.dict ho hc.1 hdat g1 g2) h1 (fun _ hm => ?_) hG (by omega) (fun _ _ z => z) (fun h' u tk hk => ⟨.str _, H, I.kept hk, ⟨_, rfl⟩, q⟩) h4
    have hm' : sysModules ∈ [a] := hm
    rw [List.mem_singleton] at hm'
    rw [← hm'] at hsys
    exact absurd hsys (by decide)
end
theorem sqT_same {K : PySem.W.Frag} {H H' : Hp} {a : Addr} {xs : List V} (e : ∀ b o, H b = some o → H' b = some o) (h : SqT K H a xs) : SqT K H' a xs := by
  rcases h with (h | ⟨o, h⟩) | h
  · exact .inl (.inl (e _ _ h))
  · exact .inl (.inr ⟨o, e _ _ h⟩)
  · exact .inr h
mutual
theorem dp_same {K : PySem.W.Frag} {H H' : Hp} (s : ∀ b o, H b = some o → H' b = some o) : ∀ (d : PyData) (v : V), Dp K H v d → Dp K H' v d
  | .none, _, h => by
    cases h
    exact .non
  | .bool b, _, h => by
    cases h
    exact .bl b
  | .int i, _, h => by
    cases h
    exact .int i
  | .str x, _, h => by
    cases h
    exact .str x
  | .list ds, _, h => by
    cases h with
    | lst a b => exact .lst (Same.seq s a) (dpAll_same s ds _ b)
  | .tuple ds, _, h => by
    cases h with
    | tup a b => exact .tup (sqT_same s a) (dpAll_same s ds _ b)
  | .dict _, _, h => by cases h
theorem dpAll_same {K : PySem.W.Frag} {H H' : Hp} (s : ∀ b o, H b = some o → H' b = some o) : ∀ (ds : List PyData) (vs : List V), DpAll K H vs ds → DpAll K H' vs ds
  | [], _, h => by
    cases h
    exact .nil
  | d :: ds, _, h => by
    cases h with
    | cons a b => exact .cons (dp_same s d _ a) (dpAll_same s ds _ b)
end
theorem Dq.same {K : PySem.W.Frag} {H H' : Hp} {v : V} {d : PyData} (h : Dq K H v d) (s : Same H H') : Dq K H' v d := by
  cases h with
  | dp a b => exact .dp (dp_same s _ _ a) b
  | dk a => exact .dk (s _ _ a)
end RL

set_option maxHeartbeats 1000000
/-! what repr shows of well-formed data is a well-formed text -/
namespace RL
open PySem L2 PySem.Spec PyProof.Rows PySem.Builtin.Str
def Uok (x : Str) : Prop := ∀ c ∈ x.cps.toList, c < 0x110000
theorem Uok.app {x y : Str} (h : Uok x) (k : Uok y) : Uok (x ++ y) := fun c hc => by
  have e : (x ++ y).cps.toList = x.cps.toList ++ y.cps.toList := by
    show (x.cps ++ y.cps).toList = _
    rw [Array.toList_append]
  rw [e] at hc
  exact (List.mem_append.mp hc).elim (h c) (k c)
theorem chr_lt (ch : Char) : ch.toNat < 0x110000 := by
  have h := ch.valid
  have e : ch.toNat = ch.val.toNat := rfl
  rcases h with h | h
  · have h2 : ch.val.toNat < 0xd800 := h
    omega
  · have h2 : ch.val.toNat < 0x110000 := h.2
    omega
theorem Uok.of (s : String) : Uok (Str.ofString s) := fun c hc => by
  rw [PyProof.Rows.signs_ofString] at hc
  obtain ⟨ch, _, rfl⟩ := List.mem_map.mp hc
  exact chr_lt ch
theorem Uok.join {y : Str} (hy : Uok y) : ∀ {l : List Str}, (∀ x ∈ l, Uok x) → Uok (Str.join y l)
  | [], _ => fun c hc => absurd (show c ∈ ([] : List Nat) from hc) (by simp)
  | [x], h => h x List.mem_cons_self
  | x :: z :: l, h => by
    show Uok (x ++ y ++ Str.join y (z :: l))
    exact ((h x List.mem_cons_self).app hy).app (Uok.join hy fun a ha => h a (List.mem_cons_of_mem _ ha))
end RL

set_option maxHeartbeats 1000000
/-! Pairs of exceptions, made by position and by name. -/
namespace RL
open PySem L2
def spI (K : PySem.W.Frag) (f : Str) : Sp := fun vs H Q _ => ∃ (a C : Addr) (y : V), vs = [.ref a, y] ∧ XC K C ∧ PySem.W.findIn K (.ref C) f = some none ∧ H a = some (exo a C none) ∧
  ∀ dx, H dx = none → dx ≠ a → Q .non (upd (upd H dx (exd dx [(f, y)])) a (exo a C (some dx)))
def spN : Sp := fun vs H Q _ => ∃ v : V, vs = [v] ∧ Q .non H
def Xv (H : Hp) (a C : Addr) (f : Str) (y : V) : Prop := ∃ dx : Addr, H a = some (exo a C (some dx)) ∧ H dx = some (exd dx [(f, y)])
theorem Xv.same {H H' : Hp} {a C : Addr} {f : Str} {y : V} (h : Xv H a C f y) (s : Same H H') : Xv H' a C f y := by
  obtain ⟨dx, h1, h2⟩ := h
  exact ⟨dx, s _ _ h1, s _ _ h2⟩
def Pr (H : Hp) (v : V) (C : Addr) (f : Str) (y : V) : Prop := ∃ l a b : Addr, v = .ref l ∧ H l = some (.lst [.ref a, .ref b]) ∧ Xv H a C f y ∧ Xv H b C f y
theorem Pr.same {H H' : Hp} {v : V} {C : Addr} {f : Str} {y : V} (h : Pr H v C f y) (s : Same H H') : Pr H' v C f y := by
  obtain ⟨l, a, b, e, h1, h2, h3⟩ := h
  exact ⟨l, a, b, e, s _ _ h1, h2.same s, h3.same s⟩
def tPair (C : Addr) (f : Str) (i : Nat) : TE := fun σ H Q => ∃ y, σ[i]? = some (some y) ∧ ∀ v H', Same H H' → Pr H' v C f y → (∀ l, v = .ref l → H l = none) → Q v H'
section
variable {X : Cx} {e1 e2 : Expr} {x : Str} {p1 p2 p3 p4 p5 pos : Pos} {nm : Option Str} {kpos : Pos} {i : Nat}
def tMk0 (C : Addr) : TE := fun _ H Q => ∀ a, H a = none → Q (.ref a) (upd H a (exo a C none))
end
section
variable {X : Cx} {K : PySem.W.Frag} {e : Expr} {te : TE} {pos : Pos} {n : Str}
theorem cr_rpK (hG : X.A.guards = some []) (hu : X.A.units + 64 < cLine) (hK : X.K = K := by rfl) : CallR X (.builtin "repr") (rRp K) := by
  subst hK
  exact cr_rp hG hu
end
end RL

set_option maxHeartbeats 2000000
/-! try: .. except (A, B, C) as e: .. where the suite calls defs that ask e and make lists. -/
namespace RL
open PySem L2 PySem.Spec PyProof.Rows
/-! ### the clause -/
theorem fly_keeps {B : Heap} {l : List Env} {a : Addr} {Z : Obj → Prop} {h h' : Heap} (fl : HandSPX.FlyingZ B l a Z h) (k : ∀ b o, h.get? b = some o → h'.get? b = some o) : HandSPX.FlyingZ B l a Z h' := by
  obtain ⟨g1, g2, g3, oe, vs, T, oT, ts, he, hz, hd, h1, hnT, hTe, hT, hdT, h3⟩ := fl
  exact ⟨fun b o e => k b o (g1 b o e), g2, g3.of_keeps fun b o e _ => ⟨o, k b o e, rfl⟩, oe, vs, T, oT, ts, k _ _ he, hz, hd, h1, hnT, hTe, k _ _ hT, hdT, h3⟩
def wAs3 (K : PySem.W.Frag) (cs : List Value) (i : Nat) (ts : Addr → Value → Option Addr → TS) (D : Ends) : WX := fun cls d σ H => PySem.W.exmAny K cls cs = some true ∧
  ∀ a, H a = none → ts a cls d { nx := fun σ' H' => D.nx (σ'.set i none) H', rt := D.rt, bk := fun σ' H' => D.bk (σ'.set i none) H', ct := fun σ' H' => D.ct (σ'.set i none) H' } (σ.set i (some (.ref a))) H
section
variable {X : Cx} {x1 x2 x3 n : Str} {c1 c2 c3 : Value} {i kk : Nat} {body suite : List Stmt} {b₀ : Stmt} {p1 p2 p3 tpos pos pos' : Pos} {tb : WX → TS} {ts : Addr → Value → Option Addr → TS}
theorem ps_try_as3 (hs : X.stack = X.env :: X.outer) (hf : X.env.frame = some X.env.locals) (hN : X.N.Nodup) (hi : X.N[i]? = some n) (hln : X.env.kindOf n = some .local) (n1 : Names X x1 c1) (n2 : Names X x2 c2) (n3 : Names X x3 c3)
    (hb : ∀ (W : WX) (pn : List (Addr × Obj)) (xe : Value → Shared → Prop), L2N.Takes (X.tr pn xe) W → PassesOwn (model X.prog X.w) X.A X.env xe → PSs (X.tr pn xe) body (tb W))
    (hsu : ∀ (a : Addr) (oe : Obj) (cls : Value) (d : Option Addr) (pn : List (Addr × Obj)), L2N.Zn cls d oe → (∃ vs, oe.data = .fields vs) → PSs (X.suite a ((a, oe) :: pn)) (b₀ :: suite) (ts a cls d)) :
    PS X (.Try body [.ExceptHandler (some (.Tuple [.Name x1 p1, .Name x2 p2, .Name x3 p3] kk tpos)) (some n) (b₀ :: suite) pos'] [] [] pos) (fun D σ H => tb (wAs3 X.K [c1, c2, c3] i ts D) D σ H) := by
  refine ⟨fun pins s σ H D I h => ?_⟩
  have ok := I.ok
  have hfr : X.A.frames = some (X.env :: X.outer) := by rw [ok.frames, hs]
  refine wpAny_Try_except (wpAny_mono ((hb (wAs3 X.K [c1, c2, c3] i ts D) (X.pn ++ pins) (fun e s₁ => wpAny (model X.prog X.w) X.A (noteFrame e X.env) (fun _ s₂ => wpAny (model X.prog X.w) X.A (setFlight e none) (fun _ s₃ =>
    wpAny (model X.prog X.w) X.A (handleBy e X.env [.ExceptHandler (some (.Tuple [.Name x1 p1, .Name x2 p2, .Name x3 p3] kk tpos)) (some n) (b₀ :: suite) pos']) (SP X pins D) X.xe s₃) X.xe s₂) X.xe s₁) (fun u s' xx => ?_) PassesOwn.looking).run [] s σ H D (I.toTry _) h) (fun f s1 hsp => ?_) (fun e s1 he => he))
  · obtain ⟨a, B, sI, pins', σ', H', cls, d, rfl, J', nb, up, sky, na, os, ag, hb1, hyes⟩ := xx
    have J : Inv X pins σ' H' sI := J'.ofTry ok
    rw [show (X.tr (X.pn ++ pins) _).stack = X.env :: X.outer from hs] at sky
    show wpAny (model X.prog X.w) X.A (noteFrame (.ref a) X.env) _ _ _
    refine L2N.Sky.land L2N.Zn.steady hfr hf sky fun h3 fl3 up3 => ?_
    have J3 : Inv X pins σ' H' { s' with heap := h3 } := J.landed nb fl3.1 (up.trans up3) os ag
    obtain ⟨oe3, vs3, he3, hz3, hd3⟩ := fl3.there
    have nfr : a ∉ frs (X.env :: X.outer) := fun hm => by
      obtain ⟨_, o', e', hnf⟩ := fl3.2.2.1.mem hm
      rw [he3] at e'
      cases e'
      exact hnf _ hd3
    have nL : a ≠ X.env.locals := fun z => nfr (List.mem_filterMap.mpr ⟨X.env, List.mem_cons_self, by rw [hf, z]⟩)
    have nF : a ∉ X.fs := fun hm => by
      obtain ⟨e, he, q⟩ := List.mem_filterMap.mp hm
      exact nfr (List.mem_filterMap.mpr ⟨e, List.mem_cons_of_mem _ he, q⟩)
    have S3 := J3.suite he3 hd3 na nL nF
    have look : ∀ {y : Str} {c : Value} {py : Pos} {Q : Value → Shared → Prop} {E : Value → Shared → Prop}, Names X y c → Q c { s' with heap := h3 } → wpAny (model X.prog X.w) (X.A.mark (some (.ref a))) (eval (.Name y py) X.env) Q E { s' with heap := h3 } := fun {y c py Q E} hc q => by
      obtain ⟨hg, hdbg, hm | ⟨hm, hv, hnn⟩⟩ := hc
      · exact ld_glob (X := X.suite a ((a, oe3) :: (X.pn ++ pins))) S3 hg hm q hdbg
      · exact ld_blt (X := X.suite a ((a, oe3) :: (X.pn ++ pins))) S3 hg hm hv q hnn hdbg
    refine wpAny_handleBy_cons (codeAny_handlers_test ?_) (by intro q; cases q)
    refine wpAny_Tuple (wpAny_items_cons (look n1 (wpAny_items_cons (look n2 (wpAny_items_cons (look n3 (wpAny_items_nil ⟨by size_fits, ?_⟩)))))))
    have kp : ∀ q o, h3.get? q = some o → (h3.push { cls := .type "tuple", data := .seq [c1, c2, c3].toArray }).get? q = some o := fun _ _ z => Heap.get?_push_of_some _ z
    have LT : PySem.W.Looks (model X.prog X.w) h3 (typeOf (.ref a)) cls := fun A Q E s k q => wpAny_typeOf_ref (k _ _ he3) (by rw [hz3.1]; exact q)
    refine (PySem.W.exm_tup3 (M := model X.prog X.w) (J3.kIn.keeps kp) (LT.keeps kp) (Heap.get?_push_size h3 rfl) hb1).here ?_
    refine codeAny_handlers_suite_as ?_
    refine HandSPX.lands_againZ (fly_keeps fl3 kp) fun h4 fl4 up4 => ?_
    have J4 : Inv X pins σ' H' { s' with heap := h4 } := J.landed nb fl4.1 ((up.trans up3).trans ((Heap.UpToSlots.of_keeps kp).trans up4)) os ag
    obtain ⟨oe4, vs4, he4, hz4, hd4⟩ := fl4.there
    have S4 := J4.suite he4 hd4 na nL nF
    refine store_ok (X := X.suite a ((a, oe4) :: (X.pn ++ pins))) (v := .ref a) S4 hN hi (.inl hln) rfl (fun s5 S5 => ?_) (.inr hln)
    refine wpAny_mono ((hsu a oe4 cls d (X.pn ++ pins) hz4 ⟨_, hd4⟩).run [] s5 _ H' _ S5 (hyes a na)) (fun f s6 hsp => ?_) (fun _ _ z => False.elim z)
    have fin : ∀ {σ6 : L2.St} {H6 : Hp} {Q : Shared → Prop}, Inv (X.suite a ((a, oe4) :: (X.pn ++ pins))) [] σ6 H6 s6 → (∀ s7, Inv X pins (σ6.set i none) H6 s7 → Q s7) →
        wpAny (model X.prog X.w) X.A (do bindName X.env n .none; unbindBehindTheSuite X.env n pos') (fun _ s7 => Q s7) X.xe s6 := fun {σ6 H6 Q} S6 hq => gone_ok (S6.unsuite ok) hN hi hln hq
    cases f with
    | next =>
      obtain ⟨σ6, H6, S6, q6⟩ := hsp
      exact fin S6 fun s7 J7 => ⟨_, _, J7, q6⟩
    | brk =>
      obtain ⟨σ6, H6, S6, q6⟩ := hsp
      exact fin S6 fun s7 J7 => ⟨_, _, J7, q6⟩
    | cont =>
      obtain ⟨σ6, H6, S6, q6⟩ := hsp
      exact fin S6 fun s7 J7 => ⟨_, _, J7, q6⟩
    | ret u =>
      obtain ⟨v6, σ6, H6, S6, r6, q6⟩ := hsp
      exact fin S6 fun s7 J7 => ⟨_, _, _, J7, r6, q6⟩
  · cases f with
    | next =>
      obtain ⟨σ', H', J', q⟩ := hsp
      exact wpAny_execs_nil ⟨σ', H', J'.ofTry ok, q⟩
    | brk =>
      obtain ⟨σ', H', J', q⟩ := hsp
      exact ⟨σ', H', J'.ofTry ok, q⟩
    | cont =>
      obtain ⟨σ', H', J', q⟩ := hsp
      exact ⟨σ', H', J'.ofTry ok, q⟩
    | ret u =>
      obtain ⟨v, σ', H', J', r, q⟩ := hsp
      exact ⟨v, σ', H', J'.ofTry ok, r, q⟩
end
/-! ### defs called in the suite -/
structure FnE (P : Program) (w : World) (K : PySem.W.Frag) (mg : Str → Option Value) (base : Heap) (k : Nat) (f : Addr) (fd : FuncData) (ps : List Str) (sp : Addr × Obj → Sp) : Prop where
  len : ∀ p vs H Q E, sp p vs H Q E → vs.length = ps.length
  run : ∀ (A : Around) (outer : List Env) (s : Shared) (H : Hp) (args : Args) (us : List Value) (vs : List V) (Q : VK) (p : Addr × Obj), L2H.RoomH k A → L2H.Hot1 A p → L2H.PinOk outer H s p → Env0 P w K mg base A outer s H → BindsTo s fd args (ps.zip us) → Vals vs us → sp p vs H Q E0 →
    codeAny (model P w) A (.call (.ref f) args) (CR CX0 outer P w H s Q E0) s
section
variable {P : Program} {w : World} {K : PySem.W.Frag} {mg : Str → Option Value} {base : Heap}
end
structure DfE (P : Program) (w : World) (K : PySem.W.Frag) (mg : Str → Option Value) (base : Heap) (k : Nat) (x : Str) (ps : List Str) (sp : Addr × Obj → Sp) : Prop where
  ex : ∃ (f : Addr) (fd : FuncData), FnE P w K mg base k f fd ps sp ∧ mg x = some (.ref f) ∧ PySem.W.keepIn K (.ref f) = true ∧ Binds K fd ps []
section
variable {X : Cx} {k : Nat} {ps : List Str} {sp : Addr × Obj → Sp} {x : Str} {q pos : Pos} {e : Expr} {es : List Expr} {t : TA} {p : Addr × Obj}
end
/-! ### the exception asked -/
def Px (p : Addr × Obj) (C : Addr) (H : Hp) : Prop := p.2.cls = .ref C ∧ (∃ vs, p.2.data = .fields vs) ∧ (p.2.dict = none ∨ ∃ (d : Addr) (fs : List (Str × V)), p.2.dict = some d ∧ H d = some (.xd fs))
theorem Px.same {p : Addr × Obj} {C : Addr} {H H' : Hp} (h : Px p C H) (s : Same H H') : Px p C H' := ⟨h.1, h.2.1, h.2.2.imp id fun ⟨d, fs, a, b⟩ => ⟨d, fs, a, s _ _ b⟩⟩
def rIsP (K : PySem.W.Frag) (p : Addr × Obj) : List V → Hp → VK → Prop := fun xs H Q => ∃ (C : Addr) (c : V) (u : Value) (b : Bool), xs = [.ref p.1, c] ∧ ClsV c u ∧ XC K C ∧ Px p C H ∧ PySem.W.kitOne K (.ref C) u = some b ∧ Q (.bl b) H
theorem call_isP {X : Cx} {p : Addr × Obj} (Z : XK0 X.K) (hp : p ∈ X.pn) : CallR X (.builtin "isinstance") (rIsP X.K p) := by
  intro pins s σ H xs us Q I r h
  obtain ⟨C, c, u, b, rfl, kc, T, ⟨hc, ⟨vs, hd⟩, hx⟩, e, q⟩ := h
  obtain ⟨u1, u2, rfl, r1, r2⟩ := vals2 r
  have e2 := kc.eq r2
  subst e2
  cases (show u1 = Value.ref p.1 from r1)
  obtain ⟨hget, _⟩ := I.pin p (List.mem_append_left _ hp)
  have nc : PySem.W.notCls p.2 = true := by unfold PySem.W.notCls; rw [hd] <;> rfl
  have key : ∃ od, PySem.W.InstAt s.heap p.1 p.2 C od := by
    rcases hx with hx | ⟨dx, fs, hx, hf⟩
    · exact ⟨none, hget, hc, nc, by rw [hx]; trivial⟩
    · obtain ⟨mA, ⟨od, es, ep, hod, _⟩, _⟩ := (show ObjOk X.prog X.w H s.heap dx (.xd fs) from I.hok dx _ hf)
      exact ⟨some od, hget, hc, nc, by rw [hx]; exact hod⟩
  obtain ⟨od, J⟩ := key
  exact PySem.W.kia_one (PySem.W.kitx_exc (ox := p.2) (od := od) T.cl T.ga T.gg T.sub T.ca Z.cn Z.ct T.mo) I.kIn J e (fun z => nomatch z) fun tk => ⟨.bl b, H, I.tok tk, rfl, q⟩
def tPfd (K : PySem.W.Frag) (p : Addr × Obj) (f : Str) (te : TE) : TE := fun σ H Q => te σ H fun x H1 => ∃ (C dx : Addr) (fs : List (Str × V)) (v : V), x = .ref p.1 ∧ XC K C ∧ PySem.W.findIn K (.ref C) f = some none ∧ p.2.cls = .ref C ∧ (∃ vs, p.2.data = .fields vs) ∧ p.2.dict = some dx ∧ H1 dx = some (.xd fs) ∧ fs.lookup f = some v ∧ Q v H1
theorem pe_pfd {X : Cx} {p : Addr × Obj} {e : Expr} {te : TE} {pos : Pos} {n : Str} (hp : p ∈ X.pn) (he : PE X e te) (hb : attributeBase e n X.env (eval e X.env) = eval e X.env := by rfl) : PE X (.Attribute e n pos) (tPfd X.K p n te) := by
  refine ⟨fun pins s σ H Q I h => attr_of hb (thn (he.run pins s σ H _ I h) fun u s1 ⟨x, H1, I1, rx, C, dx, fs, v, ex, T, hno, hc, ⟨vs, hd⟩, ed, ea, l, q⟩ => ?_)⟩
  subst ex
  cases (show u = Value.ref p.1 from rx)
  obtain ⟨hget, _⟩ := I1.pin p (List.mem_append_left _ hp)
  obtain ⟨mA, hns, hr⟩ := (show ObjOk X.prog X.w H1 s1.heap dx (.xd fs) from I1.hok dx _ ea)
  obtain ⟨od, hod, hl⟩ := lookIn_ns hns
  obtain ⟨u, hu, ru⟩ := RelO.some_of (v := v) (o := mA n) (by rw [← l]; exact hr n)
  have nc : PySem.W.notCls p.2 = true := by unfold PySem.W.notCls; rw [hd] <;> rfl
  have J : PySem.W.InstAt s1.heap p.1 p.2 C (some od) := ⟨hget, hc, nc, by rw [ed]; exact hod⟩
  exact HandSPX.exc_get I1.kIn J T.ga T.gg T.sub (PySem.W.findObj_own T.hd hno rfl (by rw [hl, hu])) (handed_of ru) ⟨v, H1, I1.tok _, ru, q⟩
theorem pe_pfdK {X : Cx} {K : PySem.W.Frag} {p : Addr × Obj} {e : Expr} {te : TE} {pos : Pos} {n : Str} (hp : p ∈ X.pn) (he : PE X e te) (hK : X.K = K := by rfl) (hb : attributeBase e n X.env (eval e X.env) = eval e X.env := by rfl) : PE X (.Attribute e n pos) (tPfd K p n te) := by
  subst hK
  exact pe_pfd hp he hb
end RL

set_option maxHeartbeats 2000000
/-! [.. for x in range(..) if ..] where an exception is handled. -/
namespace RL
open PySem L2 PySem.Spec PyProof.Rows
abbrev blkP (X : Cx) (p : Addr × Obj) (s : Shared) (H : Hp) (scope : Scope) (cenv : Env) (fp : List Addr) : Cx := (X.blk s H scope cenv fp).tr [p] fun _ _ => False
section
variable {X : Cx}
end
end RL

set_option maxHeartbeats 2000000
/-! raise X(e) for the package's classes; defs that raise; a lambda that may raise, handed to a def. -/
namespace RL
open PySem L2 PySem.Spec PyProof.Rows
/-! ### raise -/
def tMkX (C : Addr) (f : Str) (te : TE) : L2.St → Hp → XK → Prop := fun σ H Q => te σ H fun y H1 => ∀ d, H1 d = none → Q (.ref C) (some d) (upd H1 d (.xd [(f, y)]))
def oneV (R : V → Hp → Prop) : List V → Hp → Prop
  | [y], H => R y H
  | _, _ => False
theorem pmk_x {X : Cx} {k : Nat} {C : Addr} {f x : Str} {e : Expr} {te : TE} {p pos : Pos} (M : XM X.prog X.w X.K X.mg X.base k C ["self", f] (spI X.K f)) (tyC : PySem.W.typeIn X.K (.ref C) = some (.type "type")) (hno : PySem.W.findIn X.K (.ref C) f = some none)
    (hr : Room (k + 1) X.A) (hg : Gl X x) (hm : X.mg x = some (.ref C)) (he : PE X e te) (hdb : (x == ("__debug__" : Str)) = false := by decide) (hst : starEach [e] X.env = (false, eval e X.env) :: starEach [] X.env := by rfl) (hpl : (backTo pos (starEach [] X.env)).any (·.1) = false := by rfl) :
    L2N.PMk X (.Call (.Name x p) [e] [] pos) (tMkX C f te) := by
  intro pins s σ H Q I h
  obtain ⟨g, fd, iC, tI, F, hb, _⟩ := M.ex
  have T := M.xc
  obtain ⟨B, nid, iid, bmB, FB, SF, q, ov⟩ := T.base
  have h' : tCons te tNil σ H (oneV fun y H1 => ∀ d, H1 d = none → Q (.ref C) (some d) (upd H1 d (.xd [(f, y)]))) := h
  refine wpAny_Call_Name_kw (ld_glob I hg hm (PySem.W.callWith_K (h₀ := X.base) I.ok.mod.kin T.kp (thn ((pa_cons he pa_nil hst).run pos pins s σ H _ I h') fun us s1 ⟨vs, H1, I1, r, q1⟩ => ⟨I1.kIn, ?_⟩) hst hpl) hdb)
  cases r with
  | nil => exact False.elim q1
  | @cons y u vs' us' ry rr =>
    cases rr with
    | cons _ _ => exact False.elim q1
    | nil =>
      obtain ⟨nm, N', qn, bs, bm, hdct, sn, sub, ab, col, dd, k0, k1, k2, k3, k5, hC, hT⟩ := PySem.W.excInit_of I1.kIn q
      have bf : ∀ self, PySem.W.Looks (model X.prog X.w) s1.heap (bindSpecial (.ref g) self) (.ref g, [self]) := fun self => PySem.W.bind_fn I1.kIn self (beq_iff_eq.mp tI)
      have li := PySem.W.looks_findIn (M := model X.prog X.w) I1.kIn iC
      obtain ⟨hp, gs, dr, tk, os⟩ := s1
      have hsz : hp.objs.size ≤ hp.objs.size + 1 := Nat.le_succ _
      have hn : H1 (hp.objs.size + 1) = none := I1.hok.fresh hsz
      have kk : ∀ b o, hp.get? b = some o → (PySem.RLX.laid2 C [u] hp).get? b = some o := fun b o e => Heap.get?_push_of_some _ (Heap.get?_push_of_some _ e)
      have hget : (PySem.RLX.laid2 C [u] hp).get? (hp.objs.size + 1) = some (PySem.HandSPX.excO C hp.objs.size) := by heap_get
      have I2 : Inv X pins σ (upd H1 (hp.objs.size + 1) (exo (hp.objs.size + 1) C none)) ⟨PySem.RLX.laid2 C [u] hp, gs, dr, tk, os⟩ :=
        I1.laid (t' := tk) (a := hp.objs.size + 1) (o := exo (hp.objs.size + 1) C none) (h' := PySem.RLX.laid2 C [u] hp) kk hsz (exo_ok hget)
      have hq : spI X.K f [.ref (hp.objs.size + 1), y] (upd H1 (hp.objs.size + 1) (exo (hp.objs.size + 1) C none)) (fun v H2 => v = .non ∧ ∃ d, H2 (hp.objs.size + 1) = some (exo (hp.objs.size + 1) C (some d)) ∧ H2 d = some (exd d [(f, y)]) ∧ H1 d = none ∧
          upd (del H2 (hp.objs.size + 1)) d (.xd [(f, y)]) = upd H1 d (.xd [(f, y)])) E0 := by
        refine ⟨_, C, y, rfl, T, hno, upd_same, fun dx nd ne => ⟨rfl, dx, upd_same, ?_, ?_, ?_⟩⟩
        · rw [upd_ne ne, upd_same]
        · rw [upd_ne ne] at nd
          exact nd
        · funext b
          by_cases hb : b = dx
          · rw [hb, upd_same, upd_same]
          · rw [upd_ne hb, upd_ne hb]
            by_cases hb2 : b = hp.objs.size + 1
            · rw [hb2, del_same, hn]
            · rw [del_ne hb2, upd_ne hb2, upd_ne hb, upd_ne hb2]
      have n1 : ([Value.ref (hp.objs.size + 1), u] ++ []).length = (["self", f] : List Str).length := rfl
      have hbb := hb ⟨PySem.RLX.laid2 C [u] hp, gs, dr, tk, os⟩ [Value.ref (hp.objs.size + 1), u] I2.kIn n1
      have rr2 : Vals [V.ref (hp.objs.size + 1), y] [Value.ref (hp.objs.size + 1), u] := .cons rfl (.cons ry .nil)
      refine wpAny_call (PySem.RLX.run_make FB hT hC li bf (by show 1 ≤ sizeLine; decide) (codeAny_mono (F.run _ X.stack _ _ ⟨[Value.ref (hp.objs.size + 1), u], []⟩ [Value.ref (hp.objs.size + 1), u] _ _ E0 (hr.make C [u] [])
        (I2.env0.make C [u] []) hbb rr2 hq) fun r s' z => ?_))
      cases r with
      | error e => exact z.elim
      | ok fl =>
        cases fl with
        | ret v =>
          obtain ⟨w', H2, os2, bare2, un2, hok2, rv, ev, d, ea, ed, hd1, eH⟩ := z
          subst ev
          obtain ⟨h2, g2, d2, t2, os'⟩ := s'
          obtain ⟨t0, G, J, kG, ge, hoe, na⟩ := mk_end0 (d2 := d2) (t2 := t2) I1 hsz kk un2 hok2 os2 bare2 ea ed hd1
          rw [eH] at J na
          refine ⟨rv, hp.objs.size + 1, _, _, ⟨G, g2, d2, t2, os'⟩, _, .ref C, some d, rfl, J, kG, ge, hoe, ⟨rfl, rfl, fun vs hv => ?_⟩, rfl, rfl, na, rfl, bare2, raises_own T.sub tyC, q1 d hd1⟩
          cases hv
          rfl
        | next => exact z.elim
        | brk => exact z.elim
        | cont => exact z.elim
theorem ps_raiseX {X : Cx} {k : Nat} {C : Addr} {f x : Str} {e : Expr} {te : TE} {p pos pos' : Pos} {W : WX} (M : XM X.prog X.w X.K X.mg X.base k C ["self", f] (spI X.K f)) (tyC : PySem.W.typeIn X.K (.ref C) = some (.type "type")) (hno : PySem.W.findIn X.K (.ref C) f = some none)
    (hr : Room (k + 1) X.A) (hg : Gl X x) (hm : X.mg x = some (.ref C)) (he : PE X e te) (hc : X.calm = true) (tk : L2N.Takes X W) (hdb : (x == ("__debug__" : Str)) = false := by decide) (hst : starEach [e] X.env = (false, eval e X.env) :: starEach [] X.env := by rfl) (hpl : (backTo pos (starEach [] X.env)).any (·.1) = false := by rfl) :
    PS X (.Raise (some (.Call (.Name x p) [e] [] pos)) none pos') (fun _ σ H => te σ H fun y H1 => ∀ d, H1 d = none → W (.ref C) (some d) σ (upd H1 d (.xd [(f, y)]))) :=
  L2N.ps_raise hc tk (pmk_x M tyC hno hr hg hm he hdb hst hpl)
/-! ### defs that raise -/
section
variable {P : Program} {w : World} {K : PySem.W.Frag} {mg : Str → Option Value} {base : Heap}
theorem okN {x qual : Str} {st : Stmt} {f : Addr} {fd : FuncData} {N ps : List Str} {k : Nat} {sp : Sp} (F : Fun K x qual st f fd) (S : FnScope N ps (defScope st)) (len : ∀ vs H Q E, sp vs H Q E → vs.length = ps.length)
    (bd : ∀ (cdv : Value) (A : Around) (outer : List Env) (s : Shared) (H : Hp) (vs : List V) (Q : VK) (E : XK), Room k (A.deeper (envOfC qual (defScope st) s.heap.objs.size f cdv)) → sp vs H Q E →
      ∃ t, PSs (cxOf (L2N.CX P w) P w K mg base N qual (defScope st) f cdv A outer s H E) (defBody st) t ∧ t { nx := fun _ H' => Q .non H', rt := Q } (L2.start N vs) H) : FnOk P w K mg base (L2N.CX P w) (k + 1) f fd ps sp := by
  obtain ⟨oc, od, kV, doc, pm, an, cdv, ct, osl, rfl, lk, hcd⟩ := F.ex
  exact fn_of lk hcd S len fun A outer s H vs Q E hr hsp => bd cdv A outer s H vs Q E hr hsp
end
structure DfN (P : Program) (w : World) (K : PySem.W.Frag) (mg : Str → Option Value) (base : Heap) (k : Nat) (x : Str) (ps : List Str) (sp : Sp) : Prop where
  ex : ∃ (f : Addr) (fd : FuncData), FnOk P w K mg base (L2N.CX P w) k f fd ps sp ∧ mg x = some (.ref f) ∧ PySem.W.keepIn K (.ref f) = true ∧ Binds K fd ps []
theorem passN {X : Cx} {W : WX} {E : XK} (tk : L2N.Takes X W) (hW : ∀ cls d σ H, E cls d H → W cls d σ H) : Passes (L2N.CX X.prog X.w) X E := L2N.passes_call tk hW
section
variable {X : Cx} {k : Nat} {ps : List Str} {sp : Sp} {x : Str} {p pos : Pos} {e : Expr} {es : List Expr} {t : TA} {E : XK}
theorem pe_dfN (D : DfN X.prog X.w X.K X.mg X.base k x ps sp) (hr : Room k X.A) (hg : Gl X x) (hx : Passes (L2N.CX X.prog X.w) X E)
    (ha : PA X (e :: es) t) (hdb : (x == ("__debug__" : Str)) = false := by decide) (he : starEach (e :: es) X.env = (false, eval e X.env) :: starEach es X.env := by rfl) (hpl : (backTo pos (starEach es X.env)).any (·.1) = false := by rfl) :
    PE X (.Call (.Name x p) (e :: es) [] pos) (tCall sp [] E t) := by
  obtain ⟨f, fd, G, hm, hk, hb⟩ := D.ex
  exact pe_call G hr hg hm hk hb .nil hx ha hdb he hpl
end
/-! ### the lambda -/
section
variable {X : Cx} {pins : List (Addr × Obj)} {σ : L2.St} {H HZ : Hp} {s s1 : Shared}
abbrev lamXe (X : Cx) (A : Around) (outer : List Env) (s : Shared) (H : Hp) (E : XK) (scope : Scope) (f c' : Addr) : Value → Shared → Prop := fun e s' =>
  wpAny (model X.prog X.w) (A.deeper (LamX.lamEnv X scope s.heap.objs.size f c')) (leaving (LamX.lamEnv X scope s.heap.objs.size f c') e) (fun _ s'' => L2N.CX X.prog X.w outer H s E e s'') (fun e' s'' => L2N.CX X.prog X.w outer H s E e' s'') s'
abbrev lamN (X : Cx) (A : Around) (outer : List Env) (s : Shared) (H : Hp) (E : XK) (scope : Scope) (f c' : Addr) : Cx := (LamX.lamCx X A outer s H E scope f c').tr [] (lamXe X A outer s H E scope f c')
theorem lamN_takes {A : Around} {outer : List Env} {E : XK} {scope : Scope} {f c' : Addr} : L2N.Takes (lamN X A outer s H E scope f c') (fun cls d _ H' => E cls d H') := L2N.takes_of rfl rfl rfl rfl
theorem pe_actN {CXg : CXT} {Eg : XK} {Ng : List Str} {qg : Str} {sg : Scope} {g f c' : Addr} {cdg pm ctv : Value} {params : Arguments} {body : Expr} {scope : Scope} {k i : Nat} {a : Str} {pn : List (Addr × Obj)} {xe : Value → Shared → Prop} {W : WX} {E : XK} {tb : TE} {p1 p2 : Pos}
    (I : Inv X pins σ H s) (L : LamX.LamS X.env.scope scope) (hf : s.heap.get? f = some (PySem.W.kla_obj "<lambda>" (X.env.qual ++ "<lambda>") params body scope (cloFrom X.env.cells scope.names []) pm c' ctv)) (hfn : H f = none) (hfr : f ∉ frs X.stack)
    (hbind : bindArgs (PySem.W.kla_fn "<lambda>" (X.env.qual ++ "<lambda>") params body scope (cloFrom X.env.cells scope.names []) pm (.ref c') ctv) ⟨[], []⟩ = pure [])
    (tk : L2N.Takes ((cxOf CXg X.prog X.w X.K X.mg X.base Ng qg sg g cdg X.A X.stack s H Eg).tr pn xe) W) (hr : Room (k + 1) (X.A.deeper (envOfC qg sg s.heap.objs.size g cdg)))
    (hbody : ∀ (A : Around) (outer : List Env) (s : Shared) (H : Hp), A.guards = X.A.guards → Room k (A.deeper (LamX.lamEnv X scope s.heap.objs.size f c')) → PE (lamN X A outer s H E scope f c') body tb)
    (hN : Ng[i]? = some a) (hv : Vis sg a) (hd : (a == ("__debug__" : Str)) = false := by decide) (hcd : (a == ("__classdict__" : Str)) = false := by decide) :
    PE ((cxOf CXg X.prog X.w X.K X.mg X.base Ng qg sg g cdg X.A X.stack s H Eg).tr pn xe) (.Call (.Name a p1) [] [] p2)
      (fun σZ HZ Q => σZ[i]? = some (some (.ref f)) ∧ HZ c' = some (LamX.CodeO c' (X.env.qual ++ "<lambda>")) ∧ (∀ cls d H', E cls d H' → W cls d σZ H') ∧ tb σ HZ Q) := by
  refine ⟨fun pinsZ sZ σZ HZ Q IZ ⟨hs, hc, hW, ht⟩ => ?_⟩
  refine wpAny_Call_Name_kw (thn ((pe_var (pos := p1) (i := i) hN hv hd hcd).run pinsZ sZ σZ HZ (fun v H1 => v = .ref f ∧ H1 = HZ) IZ ⟨.ref f, hs, rfl, rfl⟩) fun u s1 ⟨v, H1, I1, r1, ev, eH⟩ => ?_)
  subst ev
  rw [eH] at I1
  cases (show u = Value.ref f from r1)
  have of1 := I1.base.keep f _ hf hfn hfr (fun z => nomatch (show f ∈ ([] : List Addr) from z))
  refine PySem.W.callWith_F0 ⟨_, _, _, _, of1⟩ ?_
  obtain ⟨⟨oc, vs, t, hoc, hdc, hvc⟩, _, _⟩ := I1.hok c' _ hc
  have rc : codeAny (model X.prog X.w) (X.A.deeper (envOfC qg sg s.heap.objs.size g cdg)) (.call (.ref f) ⟨[], []⟩) (CR (L2N.CX X.prog X.w) (envOfC qg sg s.heap.objs.size g cdg :: X.stack) X.prog X.w HZ s1 Q E) s1 := by
    refine PySem.W.kla_callFunE hr.depth of1 rfl L.co L.gen rfl ⟨c', oc, vs, t, rfl, hoc, hdc, hvc⟩ ?_
    rw [hbind]
    refine wpAny_pure (wpAny_newFunctionEnv (fun y hy => (L.own y hy).2) (fun y hy => absurd hy (by simp)) (fun h₁ hns hsb => ⟨I1.nolimit.fresh _ hsb, ?_⟩) L.kind)
    show codeAny _ _ (.expr body (LamX.lamEnv X scope s1.heap.objs.size f c')) _ _
    have kp : ∀ b o, s1.heap.get? b = some o → h₁.get? b = some o := fun b o e => hsb.extBut b o (Nat.ne_of_lt (Heap.lt_size e)) (Heap.get?_push_of_some _ e)
    have J := LamX.lam_start2 (E := E) (tk := s1.toks + ([] : List (Str × Value)).length) (c' := c') (f := f) I L I1.env0 hr.hd I1.base hns kp
    refine PySem.W.kla_codeExpr (wpAny_mono ((hbody (X.A.deeper (envOfC qg sg s.heap.objs.size g cdg)) _ s1 HZ rfl (hr.deeper _)).run [] _ _ HZ Q (J.toTry _) ht) (fun v s' hq => ?_) fun e s' hq => hq)
    obtain ⟨w', H', J', rv, q⟩ := hq
    exact ⟨w', H', J'.os, J'.bare, J'.base, J'.hok, rv, q⟩
  refine wpAny_call (codeAny_mono rc fun r s' hq => ?_)
  cases r with
  | error e => exact tk e s' (L2N.XE.of_call I1 hW hq)
  | ok fl =>
    cases fl with
    | ret u => exact I1.after hq
    | next => exact False.elim hq
    | brk => exact False.elim hq
    | cont => exact False.elim hq
end
def GivesN (X : Cx) (k : Nat) (Ng : List Str) (x : Str) (sg : Scope) (g : Addr) (cdg : Value) (bg : List Stmt) (a : Str) (q : Str) (TT : (XK → Hp → VK → Prop) → Hp → VK → Prop) : Prop :=
  ∀ (f c' : Addr) (s : Shared) (H : Hp) (Q : VK) (tl : XK → Hp → VK → Prop), Room (k + 1) (X.A.deeper (envOfC x sg s.heap.objs.size g cdg)) →
    (∀ (W : WX) (pn : List (Addr × Obj)) (xe : Value → Shared → Prop) (E : XK) (p1 p2 : Pos), L2N.Takes ((cxOf CX0 X.prog X.w X.K X.mg X.base Ng x sg g cdg X.A X.stack s H E0).tr pn xe) W →
      PE ((cxOf CX0 X.prog X.w X.K X.mg X.base Ng x sg g cdg X.A X.stack s H E0).tr pn xe) (.Call (.Name a p1) [] [] p2) (fun σZ HZ Q => σZ[0]? = some (some (.ref f)) ∧ HZ c' = some (LamX.CodeO c' q) ∧ (∀ cls d H', E cls d H' → W cls d σZ H') ∧ tl E HZ Q)) →
    H c' = some (LamX.CodeO c' q) → TT tl H Q →
    ∃ t, PSs (cxOf CX0 X.prog X.w X.K X.mg X.base Ng x sg g cdg X.A X.stack s H E0).nox bg t ∧ t { nx := fun _ H' => Q .non H', rt := Q } (L2.start Ng [.ref f]) H
section
variable {X : Cx}
theorem pe_lamN {T : List (Addr × Str)} {TT : (XK → Hp → VK → Prop) → Hp → VK → Prop} {x a : Str} {g c P : Addr} {k : Nat} {pg : Arguments} {bg : List Stmt} {sg : Scope} {dV kV doc pm cdv ct oc : Value} {an od : Option Addr} {osl : Array (Option Value)} {Ng : List Str}
    {params : Arguments} {body : Expr} {scope : Scope} {t : XK → TE} {p lpos pos : Pos} (hg : Gl X x) (hm : X.mg x = some (.ref g)) (hk : PySem.W.keepIn X.K (.ref g) = true)
    (lk : X.K.lookup g = some ⟨oc, od, .func (PySem.W.fnOf x x pg bg sg dV kV doc pm an cdv ct), osl⟩) (hcg : PySem.W.codeIn X.K cdv x = true) (hb : L2.Binds X.K (PySem.W.fnOf x x pg bg sg dV kV doc pm an cdv ct) [a] []) (Sg : FnScope Ng [a] sg) (hNg : Ng[0]? = some a) (hva : Vis sg a)
    (hG : GivesN X k Ng x sg g cdv bg a (X.env.qual ++ "<lambda>") TT)
    (TB : LamX.TabB X.base X.mg c P) (hcode : X.env.code = .ref c) (hmT : (P, X.env.qual ++ "<lambda>") ∈ T) (hu : ∀ p ∈ T, p.1 = P → p.2 = X.env.qual ++ "<lambda>") (hr : Room (k + 2) X.A) (L : LamX.LamS X.env.scope scope) (hdef : defaultsOf params X.env = ([], []))
    (hbind : ∀ (q : Str) (cl : List (Str × Addr)) (pm cv ctv : Value), bindArgs (PySem.W.kla_fn "<lambda>" q params body scope cl pm cv ctv) ⟨[], []⟩ = pure [])
    (hbody : ∀ (A : Around) (outer : List Env) (s : Shared) (H : Hp) (E : XK) (f c' : Addr), A.guards = X.A.guards → Room k (A.deeper (LamX.lamEnv X scope s.heap.objs.size f c')) → PE (lamN X A outer s H E scope f c') body (t E))
    (hdb : (x == ("__debug__" : Str)) = false := by decide) (hd : (a == ("__debug__" : Str)) = false := by decide) (hcd : (a == ("__classdict__" : Str)) = false := by decide) :
    PE X (.Call (.Name x p) [.Lambda params body scope lpos] [] pos) (LamX.tLam T TT t) := by
  refine ⟨fun pins s σ H Q I ⟨hT, h⟩ => wpAny_Call_Name_kw (ld_glob I hg hm (PySem.W.callWith_K (h₀ := X.base) I.ok.mod.kin hk ?_ (by rfl) (by rfl)) hdb)⟩
  show wpAny _ _ (spliced ((false, eval (.Lambda params body scope lpos) X.env) :: backTo pos (starEach [] X.env))) _ _ s
  refine Calls.spliced_cons (LamX.lam_make2 I TB hcode hmT hu hT hdef (L.has I.ok) fun f c' pm' ctv H1 s' I1 eN T1 hf hfn hfr hco => Calls.spliced_nil ⟨I1.kIn, ?_⟩)
  have rc : codeAny (model X.prog X.w) X.A (.call (.ref g) ⟨[.ref f], []⟩) (CR CX0 X.stack X.prog X.w H1 s' Q E0) s' := by
    refine LamX.run_ofS (N := Ng) (ps := [a]) (us := [.ref f]) (vs := [.ref f]) lk hcg Sg hr I1.env0 (hb s' [.ref f] I1.kIn rfl) (.cons rfl .nil) rfl fun hr' => ?_
    obtain ⟨t', ht', hq'⟩ := hG f c' s' H1 Q (fun E H' Q' => t E σ H' Q') hr' (fun W pn xe E p1 p2 tk => pe_actN (i := 0) I1 L hf hfn hfr (hbind _ _ _ _ _) tk hr' (fun A outer s H hgd hr2 => hbody A outer s H E f c' hgd hr2) hNg hva hd hcd) hco (h H1 eN T1)
    exact ⟨t', ht'.nox, hq'⟩
  refine wpAny_call (codeAny_mono rc fun r s2 hq => ?_)
  cases r with
  | error e => exact (show False from hq).elim
  | ok fl =>
    cases fl with
    | ret u => exact I1.after hq
    | next => exact False.elim hq
    | brk => exact False.elim hq
    | cont => exact False.elim hq
end
end RL

set_option maxHeartbeats 2000000
/-! star parameters of defs that may raise -/
namespace RL
open PySem L2 PySem.Spec PyProof.Rows
end RL

set_option maxHeartbeats 2000000
/-! Values of many kinds: what isinstance says of them; what they show. -/
namespace RL
open PySem L2 PySem.Spec PyProof.Rows
def tyN : PyData → String
  | .none => "NoneType"
  | .bool _ => "bool"
  | .int _ => "int"
  | .str _ => "str"
  | .list _ => "list"
  | .tuple _ => "tuple"
  | .dict _ => "dict"
theorem ty_dp {K : PySem.W.Frag} {H : Hp} {v : V} {d : PyData} (h : Dp K H v d) : TyX K H v (.type (tyN d)) := by
  cases h with
  | non => exact .base .non
  | bl b => exact .base (.bl b)
  | int i => exact .base (.int i)
  | str x => exact .base (.str x)
  | lst a b =>
    rcases a with (a | ⟨o, a⟩) | ⟨o, its, n, e, c, r⟩
    · exact .base (.lst a)
    · exact .base (.frz a)
    · exact .kList e c
  | tup a b =>
    rcases a with (a | ⟨o, a⟩) | ⟨o, its, n, e, c, r⟩
    · exact .base (.tup a)
    · exact .fTuple a
    · exact .kTuple e c
theorem ty_dq {K : PySem.W.Frag} {H : Hp} {v : V} {d : PyData} (h : Dq K H v d) : TyX K H v (.type (tyN d)) := by
  cases h with
  | dp a b => exact ty_dp a
  | dk a => exact .base (.dK a)
def isIntD : PyData → Bool
  | .int _ => true
  | _ => false
def isTupD : PyData → Bool
  | .tuple _ => true
  | _ => false
def isStrD : PyData → Bool
  | .str _ => true
  | _ => false
def intOrBool : PyData → Bool
  | .int _ => true
  | .bool _ => true
  | _ => false
def isBoolD : PyData → Bool
  | .bool _ => true
  | _ => false
theorem kit_int {K : PySem.W.Frag} (d : PyData) : PySem.W.kitOne K (.type (tyN d)) (.type "int") = some (intOrBool d) := by
  cases d <;> (simp only [tyN, intOrBool]; exact kit_ty (by decide +kernel))
theorem kit_bool {K : PySem.W.Frag} (d : PyData) : PySem.W.kitOne K (.type (tyN d)) (.type "bool") = some (isBoolD d) := by
  cases d <;> (simp only [tyN, isBoolD]; exact kit_ty (by decide +kernel))
theorem kit_tup {K : PySem.W.Frag} (d : PyData) : PySem.W.kitOne K (.type (tyN d)) (.type "tuple") = some (isTupD d) := by
  cases d <;> (simp only [tyN, isTupD]; exact kit_ty (by decide +kernel))
theorem kit_str {K : PySem.W.Frag} (d : PyData) : PySem.W.kitOne K (.type (tyN d)) (.type "str") = some (isStrD d) := by
  cases d <;> (simp only [tyN, isStrD]; exact kit_ty (by decide +kernel))
def withinD (d : PyData) (lo hi : Int) : Bool := match d with
  | .int i => decide (lo ≤ i) && decide (i ≤ hi)
  | _ => false
def pairD : PyData → Bool
  | .tuple [a, b] => isIntD a && isIntD b
  | _ => false
def resD : PyData → Bool
  | .int i => decide (0 ≤ i) && decide (i ≤ 1000000000000)
  | .tuple [.int a, .int b] => decide (a = 1 ∧ b = 0) || (decide (0 ≤ a) && decide (a ≤ 1000000000000) && (decide (1 ≤ b) && decide (b ≤ 1000000000000)))
  | _ => false
theorem FnOk.weak {P : Program} {w : World} {K : PySem.W.Frag} {mg : Str → Option Value} {base : Heap} {CX : CXT} {k : Nat} {f : Addr} {fd : FuncData} {ps : List Str} {sp sp' : Sp} (F : FnOk P w K mg base CX k f fd ps sp) (h : ∀ vs H Q E, sp' vs H Q E → sp vs H Q E) : FnOk P w K mg base CX k f fd ps sp' :=
  ⟨fun vs H Q E q => F.len vs H Q E (h _ _ _ _ q), fun A outer s H args us vs Q E hr e0 hb r q => F.run A outer s H args us vs Q E hr e0 hb r (h _ _ _ _ q)⟩
end RL

namespace RL
open PySem L2 PySem.Spec PyProof.Rows
theorem ix_listK {X : Cx} {K : PySem.W.Frag} (hK : X.K = K := by rfl) : IxR X (rIxL K) := by
  subst hK
  exact ix_list
end RL

set_option maxHeartbeats 2000000
namespace RL
open PySem L2 PySem.Spec PyProof.Rows
/-! ### data in heaps -/
inductive Dr (H : Hp) : V → PyData → Prop
  | non : Dr H .non .none
  | bl (b : Bool) : Dr H (.bl b) (.bool b)
  | int (i : Int) : Dr H (.int i) (.int i)
  | str (x : Str) : Dr H (.str x) (.str x)
  | lst {a : Addr} {vs : List V} {ds : List PyData} : H a = some (.lst vs) → vs.length = ds.length → (∀ (i : Nat) v d, vs[i]? = some v → ds[i]? = some d → Dr H v d) → Dr H (.ref a) (.list ds)
  | tup {a : Addr} {vs : List V} {ds : List PyData} : H a = some (.tup vs) → vs.length = ds.length → (∀ (i : Nat) v d, vs[i]? = some v → ds[i]? = some d → Dr H v d) → Dr H (.ref a) (.tuple ds)
  | dk {a : Addr} : H a = some (.dK []) → Dr H (.ref a) (.dict [])
def Drs (H : Hp) (vs : List V) (ds : List PyData) : Prop := vs.length = ds.length ∧ ∀ (i : Nat) v d, vs[i]? = some v → ds[i]? = some d → Dr H v d
theorem Drs.nil {H : Hp} : Drs H [] [] := ⟨rfl, fun (i : Nat) v d h => by simp at h⟩
theorem Drs.cons {H : Hp} {v : V} {d : PyData} {vs : List V} {ds : List PyData} (h : Dr H v d) (t : Drs H vs ds) : Drs H (v :: vs) (d :: ds) := by
  refine ⟨by simp [t.1], fun (i : Nat) w e h1 h2 => ?_⟩
  cases i with
  | zero =>
    cases h1
    cases h2
    exact h
  | succ i => exact t.2 i w e h1 h2
theorem Dr.ts {H : Hp} {a : Addr} {vs : List V} {ds : List PyData} (h : H a = some (.tup vs)) (t : Drs H vs ds) : Dr H (.ref a) (.tuple ds) := .tup h t.1 t.2
theorem Dr.ls {H : Hp} {a : Addr} {vs : List V} {ds : List PyData} (h : H a = some (.lst vs)) (t : Drs H vs ds) : Dr H (.ref a) (.list ds) := .lst h t.1 t.2
theorem Dr.mono {H H' : Hp} {v : V} {d : PyData} (h : Dr H v d) (s : Same H H') : Dr H' v d := by
  induction h with
  | non => exact .non
  | bl b => exact .bl b
  | int i => exact .int i
  | str x => exact .str x
  | lst h l _ ih => exact .lst (s _ _ h) l ih
  | tup h l _ ih => exact .tup (s _ _ h) l ih
  | dk h => exact .dk (s _ _ h)
theorem Drs.mono {H H' : Hp} {vs : List V} {ds : List PyData} (h : Drs H vs ds) (s : Same H H') : Drs H' vs ds := ⟨h.1, fun (i : Nat) v d h1 h2 => (h.2 i v d h1 h2).mono s⟩
theorem Drs.inv {H : Hp} {v : V} {d : PyData} {vs : List V} {ds : List PyData} (h : Drs H (v :: vs) (d :: ds)) : Dr H v d ∧ Drs H vs ds :=
  ⟨h.2 0 v d rfl rfl, ⟨by have := h.1; simpa using this, fun (i : Nat) w e h1 h2 => h.2 (i + 1) w e h1 h2⟩⟩
theorem Drs.at_ {H : Hp} {vs : List V} {ds : List PyData} (h : Drs H vs ds) {i : Nat} {d : PyData} (hd : ds[i]? = some d) : ∃ v, vs[i]? = some v ∧ Dr H v d := by
  have hi : i < vs.length := by rw [h.1]; exact (List.getElem?_eq_some_iff.mp hd).1
  exact ⟨_, List.getElem?_eq_getElem hi, h.2 i _ d (List.getElem?_eq_getElem hi) hd⟩
theorem Drs.atv {H : Hp} {vs : List V} {ds : List PyData} (h : Drs H vs ds) {i : Nat} {v : V} (hv : vs[i]? = some v) : ∃ d, ds[i]? = some d ∧ Dr H v d := by
  have hi : i < ds.length := by rw [← h.1]; exact (List.getElem?_eq_some_iff.mp hv).1
  exact ⟨_, List.getElem?_eq_getElem hi, h.2 i v _ hv (List.getElem?_eq_getElem hi)⟩
theorem Drs.app {H : Hp} {vs ws : List V} {ds es : List PyData} (h : Drs H vs ds) (h' : Drs H ws es) : Drs H (vs ++ ws) (ds ++ es) := by
  induction vs generalizing ds with
  | nil =>
    cases ds with
    | nil => exact h'
    | cons d ds => exact absurd h.1 (by simp)
  | cons v vs ih =>
    cases ds with
    | nil => exact absurd h.1 (by simp)
    | cons d ds => exact .cons h.inv.1 (ih h.inv.2)
theorem Drs.take {H : Hp} {vs : List V} {ds : List PyData} (h : Drs H vs ds) (n : Nat) : Drs H (vs.take n) (ds.take n) := by
  refine ⟨by rw [List.length_take, List.length_take, h.1], fun (i : Nat) v d h1 h2 => ?_⟩
  rw [List.getElem?_take] at h1 h2
  split at h1
  · rename_i hi
    rw [if_pos hi] at h2
    exact h.2 i v d h1 h2
  · cases h1
theorem Drs.drop {H : Hp} {vs : List V} {ds : List PyData} (h : Drs H vs ds) (n : Nat) : Drs H (vs.drop n) (ds.drop n) := by
  refine ⟨by rw [List.length_drop, List.length_drop, h.1], fun (i : Nat) v d h1 h2 => ?_⟩
  rw [List.getElem?_drop] at h1 h2
  exact h.2 _ v d h1 h2
theorem hda_at : ∀ {ds : List PyData} {i : Nat} {d : PyData}, PyData.hasDictAll ds = false → ds[i]? = some d → d.hasDict = false
  | d :: ds, 0, _, h, e => by
    cases e
    simp only [PyData.hasDictAll, Bool.or_eq_false_iff] at h
    exact h.1
  | d :: ds, i + 1, _, h, e => by
    simp only [PyData.hasDictAll, Bool.or_eq_false_iff] at h
    exact hda_at h.2 e
theorem dpAll_of {K : PySem.W.Frag} {H : Hp} : ∀ {vs : List V} {ds : List PyData}, vs.length = ds.length → (∀ (i : Nat) v d, vs[i]? = some v → ds[i]? = some d → Dp K H v d) → DpAll K H vs ds
  | [], [], _, _ => .nil
  | [], _ :: _, h, _ => absurd h (by simp)
  | _ :: _, [], h, _ => absurd h (by simp)
  | v :: vs, d :: ds, h, k => .cons (k 0 v d rfl rfl) (dpAll_of (by simpa using h) fun (i : Nat) w e h1 h2 => k (i + 1) w e h1 h2)
theorem Dr.dp {K : PySem.W.Frag} {H : Hp} {v : V} {d : PyData} (h : Dr H v d) (n : d.hasDict = false) : Dp K H v d := by
  induction h with
  | non => exact .non
  | bl b => exact .bl b
  | int i => exact .int i
  | str x => exact .str x
  | lst h l _ ih => exact .lst (SqL.of h) (dpAll_of l fun (i : Nat) v d h1 h2 => ih i v d h1 h2 (hda_at n h2))
  | tup h l _ ih => exact .tup (SqT.of h) (dpAll_of l fun (i : Nat) v d h1 h2 => ih i v d h1 h2 (hda_at n h2))
  | dk h => exact absurd n (by simp [PyData.hasDict])
def Nd (d : PyData) : Prop := d.hasDict = false ∨ d = .dict []
theorem Dr.dq {K : PySem.W.Frag} {H : Hp} {v : V} {d : PyData} (h : Dr H v d) (n : Nd d) : Dq K H v d := by
  rcases n with n | rfl
  · exact .dp (h.dp n) n
  · cases h with
    | dk h => exact .dk (kvs := []) h
theorem Nd.at_ {ds : List PyData} {i : Nat} {d : PyData} (n : Nd (.tuple ds)) (h : ds[i]? = some d) : d.hasDict = false := by
  rcases n with n | n
  · exact hda_at n h
  · cases n
theorem ty_dr {K : PySem.W.Frag} {H : Hp} {v : V} {d : PyData} (h : Dr H v d) : TyX K H v (.type (tyN d)) := by
  cases h with
  | non => exact .base .non
  | bl b => exact .base (.bl b)
  | int i => exact .base (.int i)
  | str x => exact .base (.str x)
  | lst a _ _ => exact .base (.lst a)
  | tup a _ _ => exact .base (.tup a)
  | dk a => exact .base (.dK a)
theorem Dr.tuple {H : Hp} {v : V} {ds : List PyData} (h : Dr H v (.tuple ds)) : ∃ a vs, v = .ref a ∧ H a = some (.tup vs) ∧ Drs H vs ds := by
  cases h with
  | tup a l k => exact ⟨_, _, rfl, a, l, k⟩
theorem Dr.list {H : Hp} {v : V} {ds : List PyData} (h : Dr H v (.list ds)) : ∃ a vs, v = .ref a ∧ H a = some (.lst vs) ∧ Drs H vs ds := by
  cases h with
  | lst a l k => exact ⟨_, _, rfl, a, l, k⟩
theorem Dr.toInt {H : Hp} {v : V} {i : Int} (h : Dr H v (.int i)) : v = .int i := by
  cases h with
  | int i => rfl
theorem Dr.toStr {H : Hp} {v : V} {x : Str} (h : Dr H v (.str x)) : v = .str x := by
  cases h with
  | str i => rfl
/-! ### heaps less one place -/
def hid (c : Addr) (H : Hp) : Hp := fun b => if b = c then none else H b
theorem hid_of {c b : Addr} {H : Hp} {o : HO} (h : H b = some o) (n : b ≠ c) : hid c H b = some o := by
  unfold hid
  rw [if_neg n]
  exact h
theorem hid_get {c b : Addr} {H : Hp} {o : HO} (h : hid c H b = some o) : b ≠ c ∧ H b = some o := by
  unfold hid at h
  by_cases n : b = c
  · rw [if_pos n] at h
    cases h
  · rw [if_neg n] at h
    exact ⟨n, h⟩
theorem hid_but {c : Addr} {H H' : Hp} (s : But c H H') : Same (hid c H) (hid c H') := fun b o e => by
  obtain ⟨n, h⟩ := hid_get e
  exact hid_of (s b o n h) n
theorem hid_sub {c : Addr} {H : Hp} : Same (hid c H) H := fun b o e => (hid_get e).2
def Dh (c : Addr) (H : Hp) (v : V) (d : PyData) : Prop := Dr (hid c H) v d
theorem Dh.but {c : Addr} {H H' : Hp} {v : V} {d : PyData} (h : Dh c H v d) (s : But c H H') : Dh c H' v d := Dr.mono h (hid_but s)
theorem Dh.same {c : Addr} {H H' : Hp} {v : V} {d : PyData} (h : Dh c H v d) (s : Same H H') : Dh c H' v d := h.but (.of s)
theorem Dh.dr {c : Addr} {H : Hp} {v : V} {d : PyData} (h : Dh c H v d) : Dr H v d := Dr.mono h hid_sub
def Dhs (c : Addr) (H : Hp) (vs : List V) (ds : List PyData) : Prop := Drs (hid c H) vs ds
theorem Dhs.but {c : Addr} {H H' : Hp} {v : List V} {d : List PyData} (h : Dhs c H v d) (s : But c H H') : Dhs c H' v d := Drs.mono h (hid_but s)
theorem Dhs.same {c : Addr} {H H' : Hp} {v : List V} {d : List PyData} (h : Dhs c H v d) (s : Same H H') : Dhs c H' v d := h.but (.of s)
/-! ### the tape -/
def TapeAt (c : Addr) (n : Nat) (H : Hp) : Prop := ∃ x y z : Int, H c = some (.lst [.int x, .int y, .int z]) ∧ 0 ≤ x ∧ 0 ≤ y ∧ y < 2147483629 ∧ 0 ≤ z ∧ z ≤ n
theorem TapeAt.same {c : Addr} {n : Nat} {H H' : Hp} (h : TapeAt c n H) (s : Same H H') : TapeAt c n H' := by
  obtain ⟨x, y, z, a, b⟩ := h
  exact ⟨x, y, z, s _ _ a, b⟩
theorem TapeAt.ne {c b : Addr} {n : Nat} {H : Hp} (h : TapeAt c n H) (m : H b = none) : c ≠ b := by
  obtain ⟨x, y, z, a, _⟩ := h
  exact ne_of_none a m
theorem TapeAt.le {c : Addr} {n m : Nat} {H : Hp} (h : TapeAt c n H) (l : n ≤ m) : TapeAt c m H := by
  obtain ⟨x, y, z, a, b, c, d, e, f⟩ := h
  exact ⟨x, y, z, a, b, c, d, e, by omega⟩
theorem TapeAt.nt {c : Addr} {n : Nat} {H : Hp} (h : TapeAt c n H) {t : Addr} {xs : List V} (e : H t = some (.tup xs)) : t ≠ c := by
  obtain ⟨x, y, z, a, _⟩ := h
  exact ne_of e a (by intro z; cases z)
theorem TapeAt.notup {c : Addr} {n : Nat} {H : Hp} (h : TapeAt c n H) : ∀ xs, H c ≠ some (.tup xs) := fun xs z => h.nt z rfl
theorem Dh.new {c : Addr} {n : Nat} {H : Hp} {p : Addr} {vs : List V} {ds : List PyData} (t : TapeAt c n H) (np : H p = none) (h : Dhs c H vs ds) : Dh c (upd H p (.tup vs)) (.ref p) (.tuple ds) :=
  Dr.ts (hid_of upd_same (t.ne np).symm) (h.same (same_upd np))
def spCell (K : PySem.W.Frag) : Sp := fun vs H Q _ => ∃ (a : Addr) (ns : List Int) (i : Nat), vs = [.ref a, .int (i : Int)] ∧ SqL K H a (ns.map V.int) ∧ i ≤ 100 ∧ ns.length ≤ 63 ∧
  ∀ H' (j : Int), Same H H' → Q (.int j) H'
def spSrc : Sp := fun vs H Q _ => ∃ i : Int, vs = [.int i] ∧ ∀ H' c, Same H H' → H c = none → TapeAt c 0 H' → Q (.ref c) H'
def spDraw : Sp := fun vs H Q _ => ∃ (c : Addr) (n : Nat) (m : Int), vs = [.ref c, .int m] ∧ TapeAt c n H ∧ n < 1000000 ∧ 0 < m ∧ Sm 200 m ∧
  ∀ H' r, But c H H' → TapeAt c (n + 1) H' → 0 ≤ r → r < m → Q (.int r) H'
section
variable {P : Program} {w : World} {K : PySem.W.Frag} {mg : Str → Option Value} {base : Heap}
abbrev s_law_cell : Stmt := top 105
theorem sc_law_cell : FnScope ["_law_script", "_law_place", "_law_found", "_law_number"] ["_law_script", "_law_place"] (defScope s_law_cell) := ⟨rfl, rfl, rfl, by decide +kernel, rfl, by decide +kernel, by decide +kernel⟩

theorem ok_cell {f : Addr} {fd : FuncData} (F : Fun K "_law_cell" "_law_cell" s_law_cell f fd) (T : Txt K mg) : FnOk P w K mg base CX0 1 f fd ["_law_script", "_law_place"] (spCell K) := by
  refine F.ok sc_law_cell (fun vs H Q E h => ?_) (fun cdv A outer s H vs Q E hr h => ?_)
  · obtain ⟨a, ns, i, rfl, _⟩ := h
    rfl
  · obtain ⟨a, ns, i, rfl, hS, hi, hn, k⟩ := h
    refine ⟨_, (pss_cons (ps_if (pt_cmpR op_lt (pv 1) (pe_callB call_len_seq (by rfl) T.len (by decide +kernel) (pa_cons (pv 0) pa_nil)) (nomark _)) (pss_one (ps_ret (pe_callTy call_int1 (by rfl) T.int_ (by decide +kernel) (pa_cons (pe_ix ix_list (pv 0) (pv 1) (fun _ _ => rfl)) pa_nil)))) pss_nil)
      (pss_cons (ps_set (i := 2) sc_law_cell.nd rfl (.inl rfl) (pe_op op_add (pe_op op_add (pe_op op_mulX (pe_op op_mul pe_int (pv 1)) (pv 1)) (pe_op op_mul pe_int (pv 1))) pe_int))
      (pss_cons (ps_for PassesOwn.never rfl (pi_list (pe_slice sl_list (pv 0) po_none (po_some pe_int))) (pg_name (i := 3) sc_law_cell.nd rfl (.inl rfl)) (pss_one (ps_set (i := 2) sc_law_cell.nd rfl (.inl rfl) (pe_op op_mod (pe_callTy call_int1 (by rfl) T.int_ (by decide +kernel) (pa_cons (pe_op op_add (pe_op op_mul (pv 2) pe_int) (pv 3)) pa_nil)) pe_int))))
      (pss_one (ps_ret (pv 2)))))), ?_⟩
    have hlen : (ns.map V.int).length = ns.length := List.length_map ..
    have isI : ∀ (xs : List Int) (j : Nat) (y : V), (xs.map V.int)[j]? = some y → ∃ u, y = V.int u := fun xs j y hj => by
      rw [List.getElem?_map] at hj
      cases q : xs[j]? with
      | none =>
        rw [q] at hj
        cases hj
      | some u =>
        rw [q] at hj
        exact ⟨u, (Option.some.inj hj).symm⟩
    refine ⟨_, rfl, _, rfl, a, _, rfl, .inl hS, _, _, rfl, rfl, _, rfl, ite2 (fun e => ?_) (fun e => ?_)⟩
    · have e0 : (i : Int) < (ns.map V.int).length := of_decide_eq_true e
      have hin : i < ns.length := by omega
      exact ⟨_, rfl, _, rfl, a, _, _, _, rfl, rfl, hS, atI_nat (v := V.int ns[i]) (by rw [List.getElem?_map, List.getElem?_eq_getElem hin]; rfl), .inl ⟨_, rfl, k _ _ (Same.refl _)⟩⟩
    · have s1 : Sm 40 (40009 * (i : Int)) := by
        have : (2 : Nat) ^ 40 = 1099511627776 := by decide
        unfold Sm
        omega
      have s2 : Sm 40 (i : Int) := by
        have : (2 : Nat) ^ 40 = 1099511627776 := by decide
        unfold Sm
        omega
      refine ⟨_, rfl, _, _, rfl, rfl, .inl ⟨by decide, by decide⟩, _, rfl, _, _, rfl, rfl, mx s1 s2, _, rfl, _, _, rfl, rfl, .inl ⟨by decide, by decide⟩, _, _, rfl, rfl, _, _, rfl, rfl, ?_⟩
      refine ⟨_, rfl, 4, rfl, a, _, rfl, hS, fun l hl0 => ?_⟩
      have sm := same_upd (o := .lst (cutV (ns.map V.int) none (some 4))) hl0
      obtain ⟨ms, em⟩ : ∃ ms : List Int, cutV (ns.map V.int) none (some 4) = ms.map V.int := by
        unfold cutV
        rw [← List.map_drop, ← List.map_take]
        exact ⟨_, rfl⟩
      have hl : SqL K (upd H l (.lst (cutV (ns.map V.int) none (some 4)))) l (ms.map V.int) := by
        refine SqL.of ?_
        rw [upd_same, em]
      refine ⟨l, rfl, ⟨_, hl⟩, for_list (K := K) (a := l) (xs := ms.map V.int) (fun j σ H' => ∃ (c2 : Int) (v3 : Option V), σ = [some (.ref a), some (.int i), some (.int c2), v3] ∧ H' = upd H l (.lst (cutV (ns.map V.int) none (some 4)))) ⟨_, none, rfl, rfl⟩ (fun _ _ _ _ h => by obtain ⟨_, _, _, rfl⟩ := h; exact hl) ?_ ?_⟩
      · rintro j y σ H' hj ⟨c2, v3, rfl, rfl⟩
        obtain ⟨u, rfl⟩ := isI _ _ _ hj
        refine ⟨_, rfl, _, _, rfl, rfl, .inr ⟨by decide, by decide⟩, _, rfl, _, _, rfl, rfl, .inl ⟨_, rfl, _, _, rfl, rfl, (by decide : (0 : Int) < 2147483629), ?_⟩⟩
        exact ⟨_, _, rfl, rfl⟩
      · rintro σ H' ⟨c2, v3, rfl, rfl⟩
        exact ⟨_, rfl, k _ _ sm⟩
abbrev s_law_src : Stmt := top 106
theorem sc_law_src : FnScope ["_law_number", "_law_digits"] ["_law_number"] (defScope s_law_src) := ⟨rfl, rfl, rfl, by decide +kernel, rfl, by decide +kernel, by decide +kernel⟩

theorem ok_src {f : Addr} {fd : FuncData} (F : Fun K "_law_src" "_law_src" s_law_src f fd) (T : Txt K mg) : FnOk P w K mg base CX0 1 f fd ["_law_number"] spSrc := by
  refine F.ok sc_law_src (fun vs H Q E h => ?_) (fun cdv A outer s H vs Q E hr h => ?_)
  · obtain ⟨i, rfl, _⟩ := h
    rfl
  · obtain ⟨i, rfl, k⟩ := h
    refine ⟨_, (pss_cons (ps_set (i := 1) sc_law_src.nd rfl (.inl rfl) (pe_ifExp (PW.pt (pw_or (pt_cmpR op_lt (pv 0) pe_int (nomark _)) (pw_or1 (pt_cmpR op_ge (pv 0) (pe_op op_pow pe_int pe_int) (nomark _))))) (pe_callB call_abs (by rfl) T.abs (by decide +kernel) (pa_cons (pv 0) pa_nil)) pe_int))
      (pss_one (ps_ret (pe_lst (pa_cons (pv 1) (pa_cons (pe_op op_mod (pe_callTy call_int1 (by rfl) T.int_ (by decide +kernel) (pa_cons (pv 0) pa_nil)) pe_int) (pa_cons pe_int pa_nil))))))), ?_⟩
    have m0 := Int.emod_nonneg i (show (2147483629 : Int) ≠ 0 by decide)
    have m1 := Int.emod_lt_of_pos i (show (0 : Int) < 2147483629 by decide)
    have fin : ∀ x : Int, 0 ≤ x → ∀ p, H p = none → Q (.ref p) (upd H p (.lst [.int x, .int (i % 2147483629), .int 0])) := fun x x0 p np => k _ p (same_upd np) np ⟨x, _, 0, upd_same, x0, m0, m1, by omega, by omega⟩
    have ab : ∀ p, H p = none → Q (.ref p) (upd H p (.lst [.int (if i < 0 then -i else i), .int (i % 2147483629), .int 0])) := fin _ (by split <;> omega)
    refine ⟨_, rfl, _, _, rfl, rfl, _, rfl, ite2 (fun e => ?_) (fun e => ?_)⟩
    · refine iteT ⟨_, rfl, _, rfl, ?_⟩
      exact ⟨_, rfl, _, rfl, .inl ⟨_, rfl, _, _, rfl, rfl, (by decide : (0 : Int) < 2147483629), (by show 3 ≤ sizeLine; decide), ab⟩⟩
    · refine ⟨_, rfl, _, _, rfl, rfl, ⟨by decide, by decide, by decide⟩, _, _, rfl, rfl, _, rfl, ite2 (fun e4 => ?_) (fun e4 => ?_)⟩
      · refine ⟨_, rfl, _, rfl, ?_⟩
        exact ⟨_, rfl, _, rfl, .inl ⟨_, rfl, _, _, rfl, rfl, (by decide : (0 : Int) < 2147483629), (by show 3 ≤ sizeLine; decide), ab⟩⟩
      · exact ⟨_, rfl, _, rfl, .inl ⟨_, rfl, _, _, rfl, rfl, (by decide : (0 : Int) < 2147483629), (by show 3 ≤ sizeLine; decide), fin 0 (by decide)⟩⟩
abbrev s_law_pick : Stmt := top 107
theorem sc_law_pick : FnScope ["_law_tape", "_law_many", "_law_digit"] ["_law_tape", "_law_many"] (defScope s_law_pick) := ⟨rfl, rfl, rfl, by decide +kernel, rfl, by decide +kernel, by decide +kernel⟩

theorem ok_draw {f : Addr} {fd : FuncData} (F : Fun K "_law_pick" "_law_pick" s_law_pick f fd) (T : Txt K mg) : FnOk P w K mg base CX0 1 f fd ["_law_tape", "_law_many"] spDraw := by
  refine F.ok sc_law_pick (fun vs H Q E h => ?_) (fun cdv A outer s H vs Q E hr h => ?_)
  · obtain ⟨c, n, m, rfl, _⟩ := h
    rfl
  · obtain ⟨c, n, m, rfl, ⟨x, y, z, hc, x0, y0, y1, z0, z1⟩, n1, m0, ms, k⟩ := h
    refine ⟨_, (C8.pss_cut (ps_asg (pe_op op_add (pe_ix ix_list (pv 0) pe_int (fun _ _ => rfl)) pe_int) (pg_sub (pv 0) pe_int set_list))
      (C8.pss_cut (ps_asg (pe_op op_mod (pe_callTy call_int1 (by rfl) T.int_ (by decide +kernel) (pa_cons (pe_op op_pow (pe_op op_add (pe_op op_add (pe_ix ix_list (pv 0) pe_int (fun _ _ => rfl)) (pe_op op_mul pe_int (pe_ix ix_list (pv 0) pe_int (fun _ _ => rfl)))) pe_int) pe_int) pa_nil)) pe_int) (pg_sub (pv 0) pe_int set_list))
      (pss_cons (ps_if (pt_cmpR op_gt (pe_ix ix_list (pv 0) pe_int (fun _ _ => rfl)) pe_int (nomark _)) (pss_cons (ps_asg (pe_callB call_divmodW (by rfl) T.divmod (by decide +kernel) (pa_cons (pe_ix ix_list (pv 0) pe_int (fun _ _ => rfl)) (pa_cons (pv 1) pa_nil))) (pg_tup rfl (pgs_cons (pg_sub (pv 0) pe_int set_list) (pgs_cons (pg_name (i := 2) sc_law_pick.nd rfl (.inl rfl)) pgs_nil))))
      (pss_one (ps_ret (pv 2)))) pss_nil)
      (pss_one (ps_ret (pe_op op_mod (pe_callTy call_int1 (by rfl) T.int_ (by decide +kernel) (pa_cons (pe_op op_fdivW (pe_ix ix_list (pv 0) pe_int (fun _ _ => rfl)) pe_int) pa_nil)) (pv 1))))))), ?_⟩
    refine ⟨fun σ' H' => σ' = [some (.ref c), some (.int m), none] ∧ H' c = some (.lst [.int x, .int y, .int (z + 1)]) ∧ But c H H', ?_, ?_⟩
    · exact ⟨_, rfl, c, _, _, _, rfl, rfl, SqL.of hc, atI_nat (j := 2) rfl, _, _, rfl, rfl, _, rfl, c, _, _, _, rfl, rfl, hc, rfl, rfl, upd_same, But.upd⟩
    rintro σ1 H1 ⟨rfl, hc1, b1⟩
    have big : (y + 31337 * (z + 1) + 17).natAbs < 2 ^ 64 := by
      have : (2 : Nat) ^ 64 = 18446744073709551616 := by decide
      omega
    refine ⟨fun σ' H' => ∃ u, σ' = [some (.ref c), some (.int m), none] ∧ H' c = some (.lst [.int x, .int u, .int (z + 1)]) ∧ But c H H' ∧ 0 ≤ u ∧ u < 2147483629, ?_, ?_⟩
    · refine ⟨_, rfl, c, _, _, _, rfl, rfl, SqL.of hc1, atI_nat (j := 1) rfl, _, rfl, c, _, _, _, rfl, rfl, SqL.of hc1, atI_nat (j := 2) rfl, _, _, rfl, rfl, .inl ⟨by decide, by decide⟩, _, _, rfl, rfl, _, _, rfl, rfl, _, _, rfl, rfl, ⟨by decide, by decide, big⟩, .inl ⟨_, rfl, _, _, rfl, rfl, (by decide : (0 : Int) < 2147483629), _, rfl, c, _, _, _, rfl, rfl, hc1, rfl, ?_⟩⟩
      exact ⟨_, rfl, upd_same, b1.trans But.upd, Int.emod_nonneg _ (by decide), Int.emod_lt_of_pos _ (by decide)⟩
    rintro σ2 H2 ⟨u, rfl, hc2, b2, q0, q1⟩
    refine ⟨_, rfl, c, _, _, _, rfl, rfl, SqL.of hc2, atI_nat (j := 0) rfl, _, _, rfl, rfl, _, rfl, ite2 (fun e => ?_) (fun e => ?_)⟩
    · have e0 : 0 < x := of_decide_eq_true e
      refine ⟨_, rfl, c, _, _, _, rfl, rfl, SqL.of hc2, atI_nat (j := 0) rfl, _, rfl, _, _, rfl, ⟨m0, PyProof.noPylong_of_log2 (PySem.Flt.log2_lt_of (by decide) (Nat.lt_of_lt_of_le ms (Nat.pow_le_pow_right (by decide) (by decide : 200 ≤ 9000))))⟩, fun p hp => ?_⟩
      have ncp : c ≠ p := ne_of_none hc2 hp
      have hc3 : (upd H2 p (HO.tup [V.int (x / m), V.int (x % m)])) c = some (.lst [.int x, .int u, .int (z + 1)]) := by
        rw [upd_ne ncp]
        exact hc2
      refine ⟨p, _, rfl, SqT.of upd_same, rfl, _, _, rfl, _, rfl, c, _, _, _, rfl, rfl, hc3, rfl, _, _, rfl, rfl, _, rfl, ?_⟩
      refine k _ _ ?_ ⟨x / m, u, z + 1, upd_same, Int.ediv_nonneg x0 (by omega), q0, q1, by omega, by omega⟩ (Int.emod_nonneg _ (by omega)) (Int.emod_lt_of_pos _ m0)
      exact (b2.trans (But.of (same_upd hp))).trans But.upd
    · refine ⟨_, rfl, c, _, _, _, rfl, rfl, SqL.of hc2, atI_nat (j := 1) rfl, _, _, rfl, rfl, ⟨by decide, by decide⟩, .inl ⟨_, rfl, _, rfl, _, _, rfl, rfl, m0, ?_⟩⟩
      exact k _ _ b2 ⟨x, u, z + 1, hc2, x0, q0, q1, by omega, by omega⟩ (Int.emod_nonneg _ (by omega)) (Int.emod_lt_of_pos _ m0)
end
end RL

set_option maxHeartbeats 2000000
/-! d.get(k) of a dict of the module's top; an empty dict beside a text; a def that is held as a value. -/
namespace RL
open PySem L2 PySem.Spec PyProof.Rows PySem.SeqAt PySem.MeetsSeq
def tGetK (K : PySem.W.Frag) (w : World) (td ty : TE) : TE := fun σ H Q => td σ H fun x H1 => ∃ d es n, x = .ref d ∧ KDict K w d es n ∧ ty σ H1 fun y H2 => ∃ (z : Str) (r : Option Value) (v : V), y = .str z ∧ PySem.W.nsIn K d z = some r ∧ RelV v (r.getD .none) ∧ Q v H2
section
variable {X : Cx} {o e : Expr} {apos cpos : Pos} {td ty : TE}
theorem pe_dgetK (ho : PE X o td) (he : PE X e ty)
    (base : attributeBase o "get" X.env (eval o X.env) = eval o X.env := by rfl)
    (few : ((backTo cpos (starEach [e] X.env)).all (fun x => !x.1) && (backToKw cpos (keywordEach [] X.env)).all (fun x => x.1.isSome) && decide (([e] : List Expr).length + ([] : List Keyword).length + (if ([] : List Keyword).isEmpty then 0 else 1) < 30)) = true := by rfl)
    (line : (apos.endLine == cpos.line) = true := by rfl) (trees : backTo cpos (starEach [e] X.env) = [(false, eval e X.env)] := by rfl) :
    PE X (.Call (.Attribute o "get" apos) [e] [] cpos) (tGetK X.K X.w td ty) := by
  refine ⟨fun pins s σ H Q I h => ?_⟩
  refine wpAny_Call_method base few line PySem.F.plainAttrs_dict PySem.F.slot_dict_get PySem.F.type_dict_get (thn (ho.run pins s σ H _ I h) fun u s1 ⟨x, H1, I1, rx, a, es, n, ex, D, q1⟩ => ?_)
  subst ex
  obtain rfl : u = Value.ref a := rx
  have hm := PySem.W.mapOf_K (prog := X.prog) (w := X.w) I1.kIn D.at_ D.lit
  refine ⟨hm.typeIs, fun b q => ?_, ?_⟩
  · cases q
    exact ⟨_, I1.kIn _ _ D.at_, rfl⟩
  rw [trees]
  refine Calls.callWith_builtin rfl (Calls.evalArgs_plain (Calls.spliced_cons (thn (he.run pins s1 σ H1 _ I1 q1) fun iv s2 ⟨y, H2, I2, ry, z, r, v, ey, hn, rv, q2⟩ => Calls.spliced_nil ?_)))
  subst ey
  obtain ⟨t, rfl⟩ := (show ∃ t, iv = Value.str z t from ry)
  have hm2 := PySem.W.mapOf_K (prog := X.prog) (w := X.w) I2.kIn D.at_ D.lit
  refine call_meetsIn PySem.F.slot_dict_get hm2.typeIs PySem.F.entry_dict_get (PySem.F.args_dict_get_2 _ _) (meets_dict_get (strKind X.prog X.w) a (strKind_is X.prog X.w z t) D.low) ⟨_, hm2, v, H2, I2.tok _, ?_, q2⟩
  rw [PySem.W.find_K D.at_ hn]
  exact rv
end
/-! ### an empty dict beside a text -/
open AutoSeq1 (wpAny_loadPart')
def rNeS (K : PySem.W.Frag) : R2 := fun x y H Q => ∃ z : Str, y = .str z ∧ ((∃ d, Dp K H x d ∧ SeqAt.shaped d = true ∧ SeqAt.shaped (.str z) = true ∧ Q (.bl (!PyData.eqv d (.str z))) H) ∨ ∃ a kvs, x = .ref a ∧ H a = some (.dK kvs) ∧ Q (.bl true) H)
/-! x is True -/
def rIsB : R2 := fun x y H Q => ∃ a b : Bool, x = .bl a ∧ y = .bl b ∧ Q (.bl (decide (a = b))) H
def rNIsB : R2 := fun x y H Q => ∃ a b : Bool, x = .bl a ∧ y = .bl b ∧ Q (.bl (!decide (a = b))) H
theorem bool_beq (a b : Bool) : (Value.bool a == Value.bool b) = decide (a = b) := by
  cases a <;> cases b <;> rfl
theorem op_isB {X : Cx} : OpR X (compareOp .Is) rIsB := by
  intro pins s σ H x y v u Q I rx ry h
  obtain ⟨a, b, rfl, rfl, q⟩ := h
  cases (show v = Value.bool a from rx)
  cases (show u = Value.bool b from ry)
  exact wpAny_is_plain rfl (fin_bl I q (bool_beq a b).symm)
theorem op_isNotB {X : Cx} : OpR X (compareOp .IsNot) rNIsB := by
  intro pins s σ H x y v u Q I rx ry h
  obtain ⟨a, b, rfl, rfl, q⟩ := h
  cases (show v = Value.bool a from rx)
  cases (show u = Value.bool b from ry)
  exact wpAny_isNot_plain rfl (fin_bl I q (congrArg (!·) (bool_beq a b).symm))
end RL

set_option maxHeartbeats 2000000
namespace RL
open PySem L2 PySem.Spec PyProof.Rows
theorem call_isiK {X : Cx} {K : PySem.W.Frag} (hK : X.K = K := by rfl) : CallR X (.builtin "isinstance") (rIsi K) := by
  subst hK
  exact call_isi
/-! the checks of values, of any data -/
theorem dpAll_len {K : PySem.W.Frag} {H : Hp} : ∀ {ys : List V} {ds : List PyData}, DpAll K H ys ds → ys.length = ds.length
  | [], _, h => by cases h; rfl
  | _ :: _, _, h => by
    cases h with
    | cons a b => rw [List.length_cons, List.length_cons, dpAll_len b]
def resOf : PyData → PyData → Bool
  | .int a, .int b => decide (a = 1 ∧ b = 0) || (decide (0 ≤ a) && decide (a ≤ 1000000000000) && (decide (1 ≤ b) && decide (b ≤ 1000000000000)))
  | _, _ => false
def resG : PyData → Bool
  | .int i => decide (0 ≤ i) && decide (i ≤ 1000000000000)
  | .tuple [a, b] => resOf a b
  | _ => false
theorem eqv_open (a b : Int) : PyData.eqv (.tuple [.int a, .int b]) (.tuple [.int 1, .int 0]) = decide (a = 1 ∧ b = 0) := by
  rw [Bool.eq_iff_iff]
  simp [PyData.eqv, PyData.eqvAll]
def spIntG (K : PySem.W.Frag) : Sp := fun vs H Q _ => ∃ (v : V) (d : PyData), vs = [v] ∧ Dq K H v d ∧ Q (.bl (isIntD d)) H
def spWithinG (K : PySem.W.Frag) : Sp := fun vs H Q _ => ∃ (v : V) (d : PyData) (lo hi : Int), vs = [v, .int lo, .int hi] ∧ Dq K H v d ∧ Q (.bl (withinD d lo hi)) H
def spPairG (K : PySem.W.Frag) : Sp := fun vs H Q _ => ∃ (v : V) (d : PyData), vs = [v] ∧ Dq K H v d ∧ Q (.bl (pairD d)) H
def spResG (K : PySem.W.Frag) : Sp := fun vs H Q _ => ∃ (v : V) (d : PyData), vs = [v] ∧ Dq K H v d ∧ Q (.bl (resG d)) H
section
variable {P : Program} {w : World} {K : PySem.W.Frag} {mg : Str → Option Value} {base : Heap} {tG : Tok} {aO : Addr}
theorem ok_isintG {f : Addr} {fd : FuncData} (F : Fun K "is_integer" "is_integer" s_is_integer f fd) (T : Txt K mg) : FnOk P w K mg base CX0 1 f fd ["value"] (spIntG K) := by
  refine F.ok sc_is_integer (fun vs H Q E h => ?_) (fun cdv A outer s H vs Q E hr h => ?_)
  · obtain ⟨v, d, rfl, _⟩ := h
    rfl
  · obtain ⟨v, d, rfl, hd, k⟩ := h
    refine ⟨_, (pss_one (ps_ret (pe_and (pe_callB call_isi (by rfl) T.isinstance (by decide +kernel) (pa_cons (pv 0) (pa_cons (pe_bltn (v := .ty "int") (by rfl) T.int_ (by decide +kernel) rfl) pa_nil))) (pe_one (pe_not (pe_callB call_isi (by rfl) T.isinstance (by decide +kernel) (pa_cons (pv 0) (pa_cons (pe_bltn (v := .ty "bool") (by rfl) T.bool_ (by decide +kernel) rfl) pa_nil)))))))), ?_⟩
    refine ⟨_, rfl, _, _, _, _, intOrBool d, rfl, .ty _, ty_dq hd, kit_int d, _, rfl, ?_⟩
    cases h1 : intOrBool d with
    | true =>
      refine iteT ⟨_, rfl, _, _, _, _, isBoolD d, rfl, .ty _, ty_dq hd, kit_bool d, _, rfl, ?_⟩
      have e : isIntD d = !isBoolD d := by cases d <;> first | rfl | exact absurd h1 (by simp [intOrBool])
      rw [← e]
      exact k
    | false =>
      have e : isIntD d = false := by cases d <;> first | rfl | exact absurd h1 (by simp [intOrBool])
      rw [e] at k
      exact iteF k
theorem ok_withinG {f : Addr} {fd : FuncData} (F : Fun K "is_integer_within" "is_integer_within" s_is_integer_within f fd) (D_is_integer : Df P w K mg base 1 "is_integer" ["value"] (spIntG K)) : FnOk P w K mg base CX0 2 f fd ["value", "least", "most"] (spWithinG K) := by
  refine F.ok sc_is_integer_within (fun vs H Q E h => ?_) (fun cdv A outer s H vs Q E hr h => ?_)
  · obtain ⟨v, d, lo, hi, rfl, _⟩ := h
    rfl
  · obtain ⟨v, d, lo, hi, rfl, hd, k⟩ := h
    refine ⟨_, (pss_one (ps_ret (pe_and (pe_df D_is_integer (hr.mono (by decide)) (by rfl) (pa_cons (pv 0) pa_nil)) (pe_one (pe_chain op_le op_le (pv 1) (pv 0) (pv 2)))))), ?_⟩
    refine ⟨_, rfl, v, d, rfl, hd, _, rfl, ?_⟩
    cases h1 : isIntD d with
    | false =>
      have e : withinD d lo hi = false := by cases d <;> first | rfl | exact absurd h1 (by simp [isIntD])
      rw [e] at k
      exact iteF k
    | true =>
      obtain ⟨i, rfl⟩ : ∃ i, d = .int i := by cases d <;> first | exact ⟨_, rfl⟩ | exact absurd h1 (by simp [isIntD])
      have ev : v = .int i := by
        cases hd with
        | dp a b => cases a with
          | int i => rfl
      subst ev
      refine iteT ⟨_, rfl, _, rfl, _, _, rfl, rfl, _, rfl, ite2 (fun e1 => ?_) (fun e1 => ?_)⟩
      · refine ⟨_, rfl, _, _, rfl, rfl, ?_⟩
        have e : withinD (.int i) lo hi = decide (i ≤ hi) := by
          simp only [withinD]
          rw [e1]
          rfl
        rw [e] at k
        exact k
      · have e : withinD (.int i) lo hi = false := by
          simp only [withinD]
          rw [show decide (lo ≤ i) = false from Bool.eq_false_iff.mpr e1]
          rfl
        rw [e] at k
        exact k
theorem ok_ispairG {f : Addr} {fd : FuncData} (F : Fun K "is_pair_of_integers" "is_pair_of_integers" s_is_pair_of_integers f fd) (T : Txt K mg) (D_is_integer : Df P w K mg base 1 "is_integer" ["value"] (spIntG K)) : FnOk P w K mg base CX0 2 f fd ["value"] (spPairG K) := by
  refine F.ok sc_is_pair_of_integers (fun vs H Q E h => ?_) (fun cdv A outer s H vs Q E hr h => ?_)
  · obtain ⟨v, d, rfl, _⟩ := h
    rfl
  · obtain ⟨v, d, rfl, hd, k⟩ := h
    refine ⟨_, (pss_one (ps_ret (pe_and (pe_callB call_isi (by rfl) T.isinstance (by decide +kernel) (pa_cons (pv 0) (pa_cons (pe_bltn (v := .ty "tuple") (by rfl) T.tuple_ (by decide +kernel) rfl) pa_nil))) (pe_and (pe_cmpR op_eq (pe_callB call_len_seq (by rfl) T.len (by decide +kernel) (pa_cons (pv 0) pa_nil)) pe_int (nomark _)) (pe_and (pe_df D_is_integer (hr.mono (by decide)) (by rfl) (pa_cons (pe_ix ix_tup (pv 0) pe_int (fun _ _ => rfl)) pa_nil)) (pe_one (pe_df D_is_integer (hr.mono (by decide)) (by rfl) (pa_cons (pe_ix ix_tup (pv 0) pe_int (fun _ _ => rfl)) pa_nil)))))))), ?_⟩
    refine ⟨_, rfl, _, _, _, _, isTupD d, rfl, .ty _, ty_dq hd, kit_tup d, _, rfl, ?_⟩
    cases h1 : isTupD d with
    | false =>
      have e : pairD d = false := by cases d <;> first | rfl | exact absurd h1 (by simp [isTupD])
      rw [e] at k
      exact iteF k
    | true =>
      obtain ⟨ds, rfl⟩ : ∃ ds, d = .tuple ds := by cases d <;> first | exact ⟨_, rfl⟩ | exact absurd h1 (by simp [isTupD])
      obtain ⟨t, ys, rfl, hs, hall, hnd⟩ : ∃ t ys, v = .ref t ∧ SqT K H t ys ∧ DpAll K H ys ds ∧ (PyData.tuple ds).hasDict = false := by
        cases hd with
        | dp a b => cases a with
          | tup h1 h2 => exact ⟨_, _, rfl, h1, h2, b⟩
      have el := dpAll_len hall
      refine iteT ⟨_, rfl, t, _, rfl, .inr hs, rfl, _, rfl, ?_⟩
      cases h2 : decide (V.int (ys.length : Int) = V.int 2) with
      | false =>
        have nl : ds.length ≠ 2 := fun z => by
          rw [el, z] at h2
          exact absurd h2 (by decide)
        have e : pairD (.tuple ds) = false := by
          match ds, nl with
          | [], _ => rfl
          | [_], _ => rfl
          | [_, _], n => exact absurd rfl n
          | _ :: _ :: _ :: _, _ => rfl
        rw [e] at k
        exact iteF k
      | true =>
        have l2 : ds.length = 2 := by
          have := V.int.inj (of_decide_eq_true h2)
          omega
        match ds, l2, hall, k, hnd with
        | [e, o], _, hall, k, hnd =>
        obtain ⟨y1, y2, rfl, d1, d2⟩ : ∃ y1 y2, ys = [y1, y2] ∧ Dp K H y1 e ∧ Dp K H y2 o := by
          cases hall with
          | cons a b => cases b with
            | cons b c => cases c with
              | nil => exact ⟨_, _, rfl, a, b⟩
        have nd : e.hasDict = false ∧ o.hasDict = false := by simpa [PyData.hasDict, PyData.hasDictAll] using hnd
        have q : pairD (.tuple [e, o]) = (isIntD e && isIntD o) := rfl
        rw [q] at k
        refine iteT ⟨_, rfl, t, _, _, _, rfl, rfl, hs, atI_nat (j := 0) rfl, y1, e, rfl, .dp d1 nd.1, _, rfl, ?_⟩
        cases h3 : isIntD e with
        | false =>
          rw [h3] at k
          exact iteF k
        | true =>
          rw [h3] at k
          exact iteT ⟨_, rfl, t, _, _, _, rfl, rfl, hs, atI_nat (j := 1) rfl, y2, o, rfl, .dp d2 nd.2, k⟩
theorem ok_isresG {f : Addr} {fd : FuncData} (F : Fun K "is_resistance" "is_resistance" s_is_resistance f fd) (T : Txt2 K mg tG aO) (D_is_integer : Df P w K mg base 1 "is_integer" ["value"] (spIntG K)) (D_is_pair_of_integers : Df P w K mg base 2 "is_pair_of_integers" ["value"] (spPairG K)) : FnOk P w K mg base CX0 3 f fd ["value"] (spResG K) := by
  refine F.ok sc_is_resistance (fun vs H Q E h => ?_) (fun cdv A outer s H vs Q E hr h => ?_)
  · obtain ⟨v, d, rfl, _⟩ := h
    rfl
  · obtain ⟨v, d, rfl, hd, k⟩ := h
    refine ⟨_, (pss_cons (ps_if (pt_val (pe_df D_is_integer (hr.mono (by decide)) (by rfl) (pa_cons (pv 0) pa_nil))) (pss_one (ps_ret (pe_chain op_le op_le pe_int (pv 0) (pe_glob (v := .int 1000000000000) rfl T.mgG ⟨_, rfl⟩)))) pss_nil)
      (pss_cons (ps_if (pt_not (pt_val (pe_df D_is_pair_of_integers (hr.mono (by decide)) (by rfl) (pa_cons (pv 0) pa_nil)))) (pss_one (ps_ret pe_bl)) pss_nil)
      (pss_cons (ps_asg (pv 0) (pg_tup rfl (pgs_cons (pg_name (i := 1) sc_is_resistance.nd rfl (.inl rfl)) (pgs_cons (pg_name (i := 2) sc_is_resistance.nd rfl (.inl rfl)) pgs_nil))))
      (pss_one (ps_ret (pe_or (pe_cmpR (op_eqD hr.units) (pv 0) (pe_glob (v := .ref aO) rfl T.mgO rfl) (nomark _)) (pe_one (pe_and (pe_chain op_le op_le pe_int (pv 1) (pe_glob (v := .int 1000000000000) rfl T.mgG ⟨_, rfl⟩)) (pe_one (pe_chain op_le op_le pe_int (pv 2) (pe_glob (v := .int 1000000000000) rfl T.mgG ⟨_, rfl⟩))))))))))), ?_⟩
    refine ⟨_, rfl, v, d, rfl, hd, _, rfl, ?_⟩
    cases h1 : isIntD d with
    | true =>
      obtain ⟨i, rfl⟩ : ∃ i, d = .int i := by cases d <;> first | exact ⟨_, rfl⟩ | exact absurd h1 (by simp [isIntD])
      have ev : v = .int i := by
        cases hd with
        | dp a b => cases a with
          | int i => rfl
      subst ev
      have q : resG (.int i) = (decide (0 ≤ i) && decide (i ≤ 1000000000000)) := rfl
      rw [q] at k
      refine iteT ⟨_, rfl, _, _, rfl, rfl, _, rfl, ite2 (fun e => ?_) (fun e => ?_)⟩
      · rw [show decide (0 ≤ i) = true from e] at k
        exact ⟨_, _, rfl, rfl, k⟩
      · rw [show decide (0 ≤ i) = false from Bool.eq_false_iff.mpr e] at k
        exact k
    | false =>
      refine iteF ⟨_, rfl, v, d, rfl, hd, _, rfl, ?_⟩
      cases h2 : pairD d with
      | false =>
        have q : resG d = false := by
          cases d with
          | tuple ds =>
            match ds, h2 with
            | [], _ => rfl
            | [_], _ => rfl
            | [a, b], h =>
              have h : (isIntD a && isIntD b) = false := h
              show resOf a b = false
              cases a <;> first | rfl | (cases b <;> first | rfl | exact absurd h (by simp [isIntD]))
            | _ :: _ :: _ :: _, _ => rfl
          | int i => exact absurd h1 (by simp [isIntD])
          | _ => rfl
        rw [q] at k
        exact iteT k
      | true =>
        obtain ⟨a, b, rfl⟩ : ∃ a b, d = .tuple [.int a, .int b] := by
          cases d with
          | tuple ds =>
            match ds, h2 with
            | [a, b], h =>
              have h : (isIntD a && isIntD b) = true := h
              obtain ⟨ha, hb⟩ := (Bool.and_eq_true _ _).mp h
              obtain ⟨a, rfl⟩ : ∃ i, a = .int i := by cases a <;> first | exact ⟨_, rfl⟩ | exact absurd ha (by simp [isIntD])
              obtain ⟨b, rfl⟩ : ∃ i, b = .int i := by cases b <;> first | exact ⟨_, rfl⟩ | exact absurd hb (by simp [isIntD])
              exact ⟨a, b, rfl⟩
          | _ => exact absurd h2 (by simp [pairD])
        obtain ⟨t, y1, y2, rfl, hs, d1, d2⟩ : ∃ t y1 y2, v = .ref t ∧ SqT K H t [y1, y2] ∧ Dp K H y1 (.int a) ∧ Dp K H y2 (.int b) := by
          cases hd with
          | dp a b => cases a with
            | tup h1 h2 => cases h2 with
              | cons a b => cases b with
                | cons b c => cases c with
                  | nil => exact ⟨_, _, _, rfl, h1, a, b⟩
        cases d1
        cases d2
        have q : resG (.tuple [.int a, .int b]) = (decide (a = 1 ∧ b = 0) || (decide (0 ≤ a) && decide (a ≤ 1000000000000) && (decide (1 ≤ b) && decide (b ≤ 1000000000000)))) := rfl
        rw [q, ← eqv_open] at k
        refine iteF ⟨_, rfl, t, _, rfl, hs, rfl, _, _, rfl, _, _, rfl, rfl, ?_⟩
        refine ⟨_, rfl, .tuple [.int a, .int b], .tuple [.int 1, .int 0], .tup hs (.cons (.int _) (.cons (.int _) .nil)), .tup (.inr T.opn) (.cons (.int _) (.cons (.int _) .nil)), rfl, rfl, _, rfl, ?_⟩
        cases he : PyData.eqv (.tuple [.int a, .int b]) (.tuple [.int 1, .int 0]) with
        | true =>
          rw [he] at k
          exact iteT k
        | false =>
          rw [he] at k
          refine iteF ?_
          refine ⟨_, rfl, _, _, rfl, rfl, _, rfl, ite2 (fun h0 => ⟨_, _, rfl, rfl, _, rfl, ite2 (fun h1 => ?_) (fun h1 => ?_)⟩) (fun h0 => ⟨false, rfl, iteF ?_⟩)⟩
          · rw [show decide (0 ≤ a) = true from h0, show decide (a ≤ 1000000000000) = true from h1] at k
            refine ⟨_, rfl, _, _, rfl, rfl, _, rfl, ite2 (fun h2 => ⟨_, _, rfl, rfl, ?_⟩) (fun h2 => ?_)⟩
            · rw [show decide (1 ≤ b) = true from h2] at k
              exact k
            · rw [show decide (1 ≤ b) = false from Bool.eq_false_iff.mpr h2] at k
              exact k
          · rw [show decide (0 ≤ a) = true from h0, show decide (a ≤ 1000000000000) = false from Bool.eq_false_iff.mpr h1] at k
            exact k
          · rw [show decide (0 ≤ a) = false from Bool.eq_false_iff.mpr h0] at k
            exact k
end
/-! ### the checker's own -/
structure TxtA (K : PySem.W.Frag) (mg : Str → Option Value) (w : World) (tG t1 t3 tC tK : Tok) (aO aW aCh : Addr) : Prop extends Txt2 K mg tG aO where
  mgOh : mg "MOST_OHMS" = some (.int 12 t1)
  mgJo : mg "MOST_JOINED" = some (.int 8 t3)
  mgCo : mg "MOST_SECTIONS" = some (.int 100 tC)
  mgKi : mg "MOST_KINDS" = some (.int 4 tK)
  mgW : mg "WORDS" = some (.ref aW)
  wds : ∃ (o : Obj) (its : Array Value) (n : Nat), K.lookup aW = some o ∧ o.cls = .type "tuple" ∧ o.data = .seq its n ∧ its.size ≤ sizeLine ∧ Vals [.str (Str.ofString "rail"), .str (Str.ofString "rung")] its.toList
  mgCh : mg "CHECKS" = some (.ref aCh)
  any : mg "any" = none
  list_ : mg "list" = none
  chk : ∃ es n, KDict K w aCh es n
def numOf : PyData → PyData → Bool
  | .int a, .int b => decide (a = 1 ∧ b = 0) || (decide (0 ≤ a) && decide (1 ≤ b))
  | _, _ => false
def numG : PyData → Bool
  | .int i => decide (0 ≤ i)
  | .tuple [a, b] => numOf a b
  | _ => false
def wordB (s : Str) : Bool := decide (s = Str.ofString "rail") || decide (s = Str.ofString "rung")
def pieceOf : PyData → PyData → Bool
  | .str s, o => wordB s && withinD o 1 12
  | _, _ => false
def pieceG : PyData → Bool
  | .tuple [a, b] => pieceOf a b
  | _ => false
def rowG : PyData → Bool
  | .tuple ds => decide (1 ≤ ds.length) && (decide (ds.length ≤ 8) && ds.all pieceG)
  | _ => false
def emptyG : PyData → Bool
  | .tuple [] => true
  | _ => false
theorem in_words (s : Str) : inV (V.str s) [.str (Str.ofString "rail"), .str (Str.ofString "rung")] = wordB s := by
  unfold wordB
  rw [Bool.eq_iff_iff]
  simp [inV]
  constructor
  · rintro (h | h)
    · exact .inl (eq_of_beq (show (Str.ofString "rail" == s) = true from h)).symm
    · exact .inr (eq_of_beq (show (Str.ofString "rung" == s) = true from h)).symm
  · rintro (rfl | rfl)
    · exact .inl (by decide +kernel)
    · exact .inr (by decide +kernel)
def spNumG (K : PySem.W.Frag) : Sp := fun vs H Q _ => ∃ (v : V) (d : PyData), vs = [v] ∧ Dq K H v d ∧ Q (.bl (numG d)) H
def spPieceG (K : PySem.W.Frag) : Sp := fun vs H Q _ => ∃ (v : V) (d : PyData), vs = [v] ∧ Dq K H v d ∧ Q (.bl (pieceG d)) H
def spRowG (K : PySem.W.Frag) : Sp := fun vs H Q _ => ∃ (v : V) (d : PyData), vs = [v] ∧ Dq K H v d ∧ ∀ H', Same H H' → Q (.bl (rowG d)) H'
def spEmptyG (K : PySem.W.Frag) : Sp := fun vs H Q _ => ∃ (v : V) (d : PyData), vs = [v] ∧ Dq K H v d ∧ Q (.bl (emptyG d)) H
def spCntG (K : PySem.W.Frag) : Sp := fun vs H Q _ => ∃ (v : V) (d : PyData), vs = [v] ∧ Dq K H v d ∧ Q (.bl (withinD d 0 100)) H
theorem dq_tup {K : PySem.W.Frag} {H : Hp} {v : V} {ds : List PyData} (h : Dq K H v (.tuple ds)) : ∃ t ys, v = .ref t ∧ SqT K H t ys ∧ DpAll K H ys ds ∧ PyData.hasDictAll ds = false := by
  cases h with
  | dp a b => cases a with
    | tup h1 h2 => exact ⟨_, _, rfl, h1, h2, b⟩
theorem dpAll_at {K : PySem.W.Frag} {H : Hp} : ∀ {ys : List V} {ds : List PyData}, DpAll K H ys ds → ∀ {i : Nat} {v : V}, ys[i]? = some v → ∃ d, ds[i]? = some d ∧ Dp K H v d
  | [], _, _, i, v, e => by simp at e
  | y :: ys, [], h, _, _, _ => by cases h
  | y :: ys, d :: ds, h, 0, v, e => by
    cases e
    cases h with
    | cons a b => exact ⟨_, rfl, a⟩
  | y :: ys, d :: ds, h, i + 1, v, e => by
    cases h with
    | cons a b => exact dpAll_at b e
theorem pair_cases {ds : List PyData} (h : pairD (.tuple ds) = true) : ∃ a b : Int, ds = [.int a, .int b] := by
  match ds, h with
  | [a, b], h =>
    have h : (isIntD a && isIntD b) = true := h
    obtain ⟨ha, hb⟩ := (Bool.and_eq_true _ _).mp h
    obtain ⟨a, rfl⟩ : ∃ i, a = .int i := by cases a <;> first | exact ⟨_, rfl⟩ | exact absurd ha (by simp [isIntD])
    obtain ⟨b, rfl⟩ : ∃ i, b = .int i := by cases b <;> first | exact ⟨_, rfl⟩ | exact absurd hb (by simp [isIntD])
    exact ⟨a, b, rfl⟩
theorem num_no {d : PyData} (h1 : isIntD d = false) (h2 : pairD d = false) : numG d = false := by
  cases d with
  | tuple ds =>
    match ds, h2 with
    | [], _ => rfl
    | [_], _ => rfl
    | [a, b], h =>
      have h : (isIntD a && isIntD b) = false := h
      show numOf a b = false
      cases a <;> first | rfl | (cases b <;> first | rfl | exact absurd h (by simp [isIntD]))
    | _ :: _ :: _ :: _, _ => rfl
  | int i => exact absurd h1 (by simp [isIntD])
  | _ => rfl
theorem take_snoc {α : Type} {l : List α} {i : Nat} {x : α} (h : l[i]? = some x) : l.take (i + 1) = l.take i ++ [x] := by
  rw [List.take_succ, h]
  rfl
section
variable {P : Program} {w : World} {K : PySem.W.Frag} {mg : Str → Option Value} {base : Heap} {tG t1 t3 tC tK : Tok} {aO aW aCh : Addr}
abbrev s_is_count : Stmt := top 11
abbrev s_is_number : Stmt := top 83
theorem sc_is_number : FnScope ["value"] ["value"] (defScope s_is_number) := ⟨rfl, rfl, rfl, by decide +kernel, rfl, by decide +kernel, by decide +kernel⟩

theorem ok_numG {f : Addr} {fd : FuncData} (F : Fun K "is_number" "is_number" s_is_number f fd) (T : TxtA K mg w tG t1 t3 tC tK aO aW aCh) (D_is_integer : Df P w K mg base 1 "is_integer" ["value"] (spIntG K)) (D_is_pair_of_integers : Df P w K mg base 2 "is_pair_of_integers" ["value"] (spPairG K)) : FnOk P w K mg base CX0 3 f fd ["value"] (spNumG K) := by
  refine F.ok sc_is_number (fun vs H Q E h => ?_) (fun cdv A outer s H vs Q E hr h => ?_)
  · obtain ⟨v, d, rfl, _⟩ := h
    rfl
  · obtain ⟨v, d, rfl, hd, k⟩ := h
    refine ⟨_, (pss_cons (ps_if (pt_val (pe_df D_is_integer (hr.mono (by decide)) (by rfl) (pa_cons (pv 0) pa_nil))) (pss_one (ps_ret (pe_cmpR op_ge (pv 0) pe_int (nomark _)))) pss_nil)
      (pss_one (ps_ret (pe_and (pe_df D_is_pair_of_integers (hr.mono (by decide)) (by rfl) (pa_cons (pv 0) pa_nil)) (pe_one (pe_or (pe_cmpR (op_eqD hr.units) (pv 0) (pe_glob (v := .ref aO) rfl T.mgO rfl) (nomark _)) (pe_one (pe_and (pe_cmpR op_ge (pe_ix ix_tup (pv 0) pe_int (fun _ _ => rfl)) pe_int (nomark _)) (pe_one (pe_cmpR op_ge (pe_ix ix_tup (pv 0) pe_int (fun _ _ => rfl)) pe_int (nomark _))))))))))), ?_⟩
    refine ⟨_, rfl, v, d, rfl, hd, _, rfl, ?_⟩
    cases h1 : isIntD d with
    | true =>
      obtain ⟨i, rfl⟩ : ∃ i, d = .int i := by cases d <;> first | exact ⟨_, rfl⟩ | exact absurd h1 (by simp [isIntD])
      have ev : v = .int i := by
        cases hd with
        | dp a b => cases a with
          | int i => rfl
      subst ev
      exact iteT ⟨_, rfl, _, _, rfl, rfl, k⟩
    | false =>
      refine iteF ⟨_, rfl, v, d, rfl, hd, _, rfl, ?_⟩
      cases h2 : pairD d with
      | false =>
        rw [num_no h1 h2] at k
        exact iteF k
      | true =>
        obtain ⟨ds, rfl⟩ : ∃ ds, d = .tuple ds := by
          cases d with
          | tuple ds => exact ⟨ds, rfl⟩
          | _ => exact absurd h2 (by simp [pairD])
        obtain ⟨a, b, rfl⟩ := pair_cases h2
        obtain ⟨t, ys, rfl, hs, hall, _⟩ := dq_tup hd
        obtain ⟨y1, y2, rfl, d1, d2⟩ : ∃ y1 y2, ys = [y1, y2] ∧ Dp K H y1 (.int a) ∧ Dp K H y2 (.int b) := by
          cases hall with
          | cons a b => cases b with
            | cons b c => cases c with
              | nil => exact ⟨_, _, rfl, a, b⟩
        cases d1
        cases d2
        have q : numG (.tuple [.int a, .int b]) = (decide (a = 1 ∧ b = 0) || (decide (0 ≤ a) && decide (1 ≤ b))) := rfl
        rw [q, ← eqv_open] at k
        refine iteT ⟨_, rfl, .tuple [.int a, .int b], .tuple [.int 1, .int 0], .tup hs (.cons (.int _) (.cons (.int _) .nil)), .tup (.inr T.opn) (.cons (.int _) (.cons (.int _) .nil)), rfl, rfl, _, rfl, ?_⟩
        cases he : PyData.eqv (.tuple [.int a, .int b]) (.tuple [.int 1, .int 0]) with
        | true =>
          rw [he] at k
          exact iteT k
        | false =>
          rw [he] at k
          refine iteF ⟨_, rfl, t, _, _, _, rfl, rfl, hs, atI_nat (j := 0) rfl, _, _, rfl, rfl, _, rfl, ite2 (fun h0 => ?_) (fun h0 => ?_)⟩
          · rw [show decide (0 ≤ a) = true from h0] at k
            exact ⟨_, rfl, t, _, _, _, rfl, rfl, hs, atI_nat (j := 1) rfl, _, _, rfl, rfl, k⟩
          · rw [show decide (0 ≤ a) = false from Bool.eq_false_iff.mpr h0] at k
            exact k
theorem ok_pieceG {f : Addr} {fd : FuncData} (F : Fun K "is_piece" "is_piece" s_is_piece f fd) (T : TxtA K mg w tG t1 t3 tC tK aO aW aCh) (D_is_integer_within : Df P w K mg base 2 "is_integer_within" ["value", "least", "most"] (spWithinG K)) : FnOk P w K mg base CX0 3 f fd ["value"] (spPieceG K) := by
  refine F.ok sc_is_piece (fun vs H Q E h => ?_) (fun cdv A outer s H vs Q E hr h => ?_)
  · obtain ⟨v, d, rfl, _⟩ := h
    rfl
  · obtain ⟨v, d, rfl, hd, k⟩ := h
    refine ⟨_, (pss_cons (ps_if (PW.pt (pw_or (pt_not (pt_val (pe_callB call_isi (by rfl) T.isinstance (by decide +kernel) (pa_cons (pv 0) (pa_cons (pe_bltn (v := .ty "tuple") (by rfl) T.tuple_ (by decide +kernel) rfl) pa_nil))))) (pw_or1 (pt_cmpR op_ne (pe_callB call_len_seq (by rfl) T.len (by decide +kernel) (pa_cons (pv 0) pa_nil)) pe_int (nomark _))))) (pss_one (ps_ret pe_bl)) pss_nil)
      (pss_cons (ps_asg (pv 0) (pg_tup rfl (pgs_cons (pg_name (i := 1) sc_is_piece.nd rfl (.inl rfl)) (pgs_cons (pg_name (i := 2) sc_is_piece.nd rfl (.inl rfl)) pgs_nil))))
      (pss_one (ps_ret (pe_and (pe_callB call_isi (by rfl) T.isinstance (by decide +kernel) (pa_cons (pv 1) (pa_cons (pe_bltn (v := .ty "str") (by rfl) T.str_ (by decide +kernel) rfl) pa_nil))) (pe_and (pe_cmpR op_in_seq (pv 1) (pe_glob (v := .ref aW) rfl T.mgW rfl) (by rfl)) (pe_one (pe_df D_is_integer_within (hr.mono (by decide)) (by rfl) (pa_cons (pv 2) (pa_cons pe_int (pa_cons (pe_glob (v := .int 12) rfl T.mgOh ⟨_, rfl⟩) pa_nil))))))))))), ?_⟩
    refine ⟨_, rfl, _, _, _, _, isTupD d, rfl, .ty _, ty_dq hd, kit_tup d, _, rfl, ?_⟩
    cases h1 : isTupD d with
    | false =>
      have e : pieceG d = false := by cases d <;> first | rfl | exact absurd h1 (by simp [isTupD])
      rw [e] at k
      exact iteT k
    | true =>
      obtain ⟨ds, rfl⟩ : ∃ ds, d = .tuple ds := by cases d <;> first | exact ⟨_, rfl⟩ | exact absurd h1 (by simp [isTupD])
      obtain ⟨t, ys, rfl, hs, hall, hnd⟩ := dq_tup hd
      have el := dpAll_len hall
      refine iteF ⟨_, rfl, t, _, rfl, .inr hs, rfl, _, rfl, ite2 (fun e => ?_) (fun e => ?_)⟩
      · have nl : ds.length ≠ 2 := fun z => by
          rw [el, z] at e
          exact absurd e (by decide)
        have e : pieceG (.tuple ds) = false := by
          match ds, nl with
          | [], _ => rfl
          | [_], _ => rfl
          | [_, _], n => exact absurd rfl n
          | _ :: _ :: _ :: _, _ => rfl
        rw [e] at k
        exact k
      · have l2 : ds.length = 2 := by
          have e2 : decide (V.int (ys.length : Int) = V.int 2) = true := by
            cases hh : decide (V.int (ys.length : Int) = V.int 2) with
            | true => rfl
            | false =>
              rw [hh] at e
              exact absurd rfl e
          have := V.int.inj (of_decide_eq_true e2)
          omega
        match ds, l2, hall, k, hnd with
        | [x, o], _, hall, k, hnd =>
        obtain ⟨y1, y2, rfl, d1, d2⟩ : ∃ y1 y2, ys = [y1, y2] ∧ Dp K H y1 x ∧ Dp K H y2 o := by
          cases hall with
          | cons a b => cases b with
            | cons b c => cases c with
              | nil => exact ⟨_, _, rfl, a, b⟩
        have nd : x.hasDict = false ∧ o.hasDict = false := by simpa [PyData.hasDictAll] using hnd
        refine ⟨_, rfl, t, _, rfl, hs, rfl, _, _, rfl, _, _, rfl, rfl, ?_⟩
        refine ⟨_, rfl, _, _, _, _, isStrD x, rfl, .ty _, ty_dp d1, kit_str x, _, rfl, ?_⟩
        cases h3 : isStrD x with
        | false =>
          have e : pieceG (.tuple [x, o]) = false := by cases x <;> first | rfl | exact absurd h3 (by simp [isStrD])
          rw [e] at k
          exact iteF k
        | true =>
          obtain ⟨s, rfl⟩ : ∃ s, x = .str s := by cases x <;> first | exact ⟨_, rfl⟩ | exact absurd h3 (by simp [isStrD])
          cases d1
          have q : pieceG (.tuple [.str s, o]) = (wordB s && withinD o 1 12) := rfl
          rw [q] at k
          refine iteT ⟨_, rfl, aW, _, rfl, .inr (.inr T.wds), rfl, rfl, _, congrArg V.bl (in_words s), ?_⟩
          cases h4 : wordB s with
          | false =>
            rw [h4] at k
            exact iteF k
          | true =>
            rw [h4] at k
            exact iteT ⟨_, rfl, y2, o, 1, 12, rfl, .dp d2 nd.2, k⟩
abbrev s_is_row : Stmt := top 84
theorem sc_is_row : FnScope ["value", "piece"] ["value"] (defScope s_is_row) := ⟨rfl, rfl, rfl, by decide +kernel, rfl, by decide +kernel, by decide +kernel⟩

theorem ok_rowG {f : Addr} {fd : FuncData} (F : Fun K "is_row" "is_row" s_is_row f fd) (T : TxtA K mg w tG t1 t3 tC tK aO aW aCh) (D_is_piece : Df P w K mg base 3 "is_piece" ["value"] (spPieceG K)) : FnOk P w K mg base CX0 4 f fd ["value"] (spRowG K) := by
  refine F.ok sc_is_row (fun vs H Q E h => ?_) (fun cdv A outer s H vs Q E hr h => ?_)
  · obtain ⟨v, d, rfl, _⟩ := h
    rfl
  · obtain ⟨v, d, rfl, hd, k⟩ := h
    refine ⟨_, (pss_cons (ps_if (PW.pt (pw_or (pt_not (pt_val (pe_callB call_isi (by rfl) T.isinstance (by decide +kernel) (pa_cons (pv 0) (pa_cons (pe_bltn (v := .ty "tuple") (by rfl) T.tuple_ (by decide +kernel) rfl) pa_nil))))) (pw_or (pt_cmpR op_lt (pe_callB call_len_seq (by rfl) T.len (by decide +kernel) (pa_cons (pv 0) pa_nil)) pe_int (nomark _)) (pw_or1 (pt_cmpR op_gt (pe_callB call_len_seq (by rfl) T.len (by decide +kernel) (pa_cons (pv 0) pa_nil)) (pe_glob (v := .int 8) rfl T.mgJo ⟨_, rfl⟩) (nomark _)))))) (pss_one (ps_ret pe_bl)) pss_nil)
      (pss_one (ps_ret (pe_callB (cr_all rfl) (by rfl) T.all (by decide +kernel) (pa_cons (pe_lc (own := [("piece", 1)]) (g := gName 1) (tt := tYes) rfl sc_is_row.nd (pi_tup (pv 0)) (blkOk_by (N := ["value", "piece"]) (sc := defScope s_is_row) (by decide +kernel)) (fun _ _ _ _ _ => pg_name (i := 1) sc_is_row.nd rfl (Or.inl rfl)) (fun _ _ _ _ _ => pts_nil) (fun _ _ _ _ _ => (pe_df D_is_piece (hr.mono (by decide)) (by rfl) (pa_cons (pv 1) pa_nil)))) pa_nil))))), ?_⟩
    refine ⟨_, rfl, _, _, _, _, isTupD d, rfl, .ty _, ty_dq hd, kit_tup d, _, rfl, ?_⟩
    cases h1 : isTupD d with
    | false =>
      have e : rowG d = false := by cases d <;> first | rfl | exact absurd h1 (by simp [isTupD])
      rw [e] at k
      exact iteT (k _ (Same.refl _))
    | true =>
      obtain ⟨ds, rfl⟩ : ∃ ds, d = .tuple ds := by cases d <;> first | exact ⟨_, rfl⟩ | exact absurd h1 (by simp [isTupD])
      obtain ⟨t, ys, rfl, hs, hall, hnd⟩ := dq_tup hd
      have el := dpAll_len hall
      have q : rowG (.tuple ds) = (decide (1 ≤ ds.length) && (decide (ds.length ≤ 8) && ds.all pieceG)) := rfl
      rw [q] at k
      refine iteF ⟨_, rfl, t, _, rfl, .inr hs, _, _, rfl, rfl, _, rfl, ite2 (fun e => ?_) (fun e => ?_)⟩
      · have := of_decide_eq_true e
        rw [decide_eq_false (show ¬ 1 ≤ ds.length by omega)] at k
        exact k _ (Same.refl _)
      have l1 : ¬ ((ys.length : Int) < 1) := fun z => e (decide_eq_true z)
      rw [decide_eq_true (show 1 ≤ ds.length by omega), Bool.true_and] at k
      refine ⟨_, rfl, t, _, rfl, .inr hs, _, _, rfl, rfl, _, rfl, ite2 (fun e => ?_) (fun e => ?_)⟩
      · have := of_decide_eq_true e
        rw [decide_eq_false (show ¬ ds.length ≤ 8 by omega)] at k
        exact k _ (Same.refl _)
      have l8 : ¬ (8 < (ys.length : Int)) := fun z => e (decide_eq_true z)
      rw [decide_eq_true (show ds.length ≤ 8 by omega), Bool.true_and] at k
      refine ⟨_, rfl, t, rfl, ⟨_, hs⟩, fun D hD => ?_⟩
      refine lc_tup (K := K) (a := t) (xs := ys) (fun i H' => Same H H' ∧ H' D = some (.lst (((ds.take i).map pieceG).map V.bl))) ⟨same_upd hD, upd_same⟩ (fun i H' _ h => sqT_same h.1 hs) ?_ ?_
      · rintro i y H' hy ⟨sD, hDi⟩
        obtain ⟨d, hd', hdp⟩ := dpAll_at hall hy
        have il : i < ds.length := (List.getElem?_eq_some_iff.mp hd').1
        refine ⟨rfl, ?_⟩
        unfold tYes
        refine iteT ?_
        refine ⟨_, rfl, _, d, rfl, (Dq.dp hdp (hda_at hnd hd')).same sD, _, hDi, ?_, ?_, ?_⟩
        · rw [List.length_map, List.length_map, List.length_take]
          exact small1000 (by omega)
        · intro q o e
          rw [upd_ne (ne_of_none e hD)]
          exact sD _ _ e
        · rw [upd_same, take_snoc hd', List.map_append, List.map_append]
          rfl
      · rintro H' ⟨sD, hDn⟩
        refine ⟨D, _, rfl, SqL.of hDn, ?_⟩
        rw [el, List.take_length, List.all_map]
        exact k _ sD
end
end RL

/-! When two rows show the same: their four fractions. -/
namespace RL
def fourOf (r : List Pc) : (Int × Int) × (Int × Int) × (Int × Int) × (Int × Int) := (low ((matR r).a, sclR r), low ((matR r).b, sclR r), low ((matR r).c, sclR r), low ((matR r).d, sclR r))
end RL

/-! Limits of ladders: their equations, fixed points. -/
namespace RL
/-! ### a closer bound of a row's map -/
def MxLe (N : Int) (m : Mx) : Prop := 0 ≤ m.a ∧ m.a ≤ N ∧ 0 ≤ m.b ∧ m.b ≤ N ∧ 0 ≤ m.c ∧ m.c ≤ N ∧ 0 ≤ m.d ∧ m.d ≤ N
theorem step_le {m : Mx} {p : Pc} {N : Int} (hp : PcOk p) (h : MxLe N m) : MxLe (13 * N) (stepM m p) := by
  obtain ⟨a0, a1, b0, b1, c0, c1, d0, d1⟩ := h
  obtain ⟨o1, o2⟩ := hp
  have up : ∀ x : Int, 0 ≤ x → x ≤ N → 0 ≤ x * p.2 ∧ x * p.2 ≤ 12 * N := fun x h0 h1 => by
    refine ⟨Int.mul_nonneg h0 (by omega), ?_⟩
    have e1 : x * p.2 ≤ x * 12 := Int.mul_le_mul_of_nonneg_left o2 h0
    omega
  have ua := up _ a0 a1
  have ub := up _ b0 b1
  have uc := up _ c0 c1
  have ud := up _ d0 d1
  unfold stepM MxLe
  split <;> (dsimp only; omega)
theorem fold_le {r : List Pc} : ∀ {m : Mx} {N : Int}, RowOk r → MxLe N m → MxLe (13 ^ r.length * N) (r.foldl stepM m) := by
  induction r with
  | nil =>
    intro m N _ h
    show MxLe (13 ^ 0 * N) m
    rw [Int.pow_zero, Int.one_mul]
    exact h
  | cons p r ih =>
    intro m N hr h
    have := ih hr.tail (step_le hr.head h)
    rw [List.foldl_cons, show (p :: r).length = r.length + 1 from rfl, Int.pow_succ]
    rw [← Int.mul_assoc] at this
    exact this
theorem matR_le {r : List Pc} (hr : RowOk r) (l8 : r.length ≤ 8) : MxLe 815730721 (matR r) := by
  have h := fold_le (N := 1) hr (m := m1) ⟨by decide, by decide, by decide, by decide, by decide, by decide, by decide, by decide⟩
  have e : (13 : Int) ^ r.length * 1 ≤ 815730721 := by
    rw [Int.mul_one]
    have e8 : (13 : Int) ^ 8 = 815730721 := by decide
    rw [← e8]
    have h8 : (13 : Nat) ^ r.length ≤ 13 ^ 8 := Nat.pow_le_pow_right (by decide) l8
    have c1 : ((13 ^ r.length : Nat) : Int) = (13 : Int) ^ r.length := by rw [Int.natCast_pow]; rfl
    have c2 : ((13 ^ 8 : Nat) : Int) = (13 : Int) ^ 8 := by decide
    rw [← c1, ← c2]
    exact Int.ofNat_le.mpr h8
  obtain ⟨a0, a1, b0, b1, c0, c1, d0, d1⟩ := h
  exact ⟨a0, Int.le_trans a1 e, b0, Int.le_trans b1 e, c0, Int.le_trans c1 e, d0, Int.le_trans d1 e⟩
theorem sm30 {x : Int} (h0 : 0 ≤ x) (h1 : x ≤ 815730721) : Sm 30 x := by
  unfold Sm
  omega
theorem matR_sm30 {r : List Pc} (hr : RowOk r) (l8 : r.length ≤ 8) : MxSm 30 (matR r) := by
  obtain ⟨a0, a1, b0, b1, c0, c1, d0, d1⟩ := matR_le hr l8
  exact ⟨sm30 a0 a1, sm30 b0 b1, sm30 c0 c1, sm30 d0 d1⟩
/-! ### the equation of the limit -/
def eqL (r : List Pc) : Int × Int × Int := if (matR r).b = 0 then (0, 1, 0) else parts (matR r).c ((matR r).d - (matR r).a) (matR r).b
theorem fixed {m : Mx} {t u : Int} (h : m.c * t * t + (m.d - m.a) * t * u = m.b * u * u) : (m.app (t, u)).1 * u = t * (m.app (t, u)).2 := by
  unfold Mx.app
  dsimp only
  grind
def appN (m : Mx) : Nat → Int × Int → Int × Int
  | 0, e => e
  | n + 1, e => m.app (appN m n e)
end RL

set_option maxHeartbeats 2000000
namespace RL
open PySem L2 PySem.Spec PyProof.Rows
/-! ### rows and numbers as data -/
def PairAt (H : Hp) (a : Addr) (e : Int × Int) : Prop := H a = some (.tup [.int e.1, .int e.2])
def pcOf2 : PyData → PyData → Pc
  | .str s, .int n => (decide (s = Str.ofString "rail"), n)
  | _, _ => (true, 1)
def pcOf : PyData → Pc
  | .tuple [a, b] => pcOf2 a b
  | _ => (true, 1)
def rowOf : PyData → List Pc
  | .tuple ds => ds.map pcOf
  | _ => []
def prOf2 : PyData → PyData → Int × Int
  | .int a, .int b => (a, b)
  | _, _ => (0, 1)
def prOf : PyData → Int × Int
  | .int i => (i, 1)
  | .tuple [a, b] => prOf2 a b
  | _ => (0, 1)
def cntOf : PyData → Nat
  | .int i => i.toNat
  | _ => 0
theorem int_of {d : PyData} (h : isIntD d = true) : ∃ i, d = .int i := by
  cases d <;> first | exact ⟨_, rfl⟩ | exact absurd h (by simp [isIntD])
theorem within_of {d : PyData} {lo hi : Int} (h : withinD d lo hi = true) : ∃ i, d = .int i ∧ lo ≤ i ∧ i ≤ hi := by
  cases d with
  | int i =>
    have h : (decide (lo ≤ i) && decide (i ≤ hi)) = true := h
    simp only [Bool.and_eq_true, decide_eq_true_eq] at h
    exact ⟨i, rfl, h.1, h.2⟩
  | _ => exact absurd h (by simp [withinD])
theorem piece_of {d : PyData} (h : pieceG d = true) : ∃ s n, d = .tuple [.str s, .int n] ∧ wd (pcOf d).1 = s ∧ (pcOf d).2 = n ∧ PcOk (pcOf d) := by
  cases d with
  | tuple ds =>
    match ds, h with
    | [a, b], h =>
      have h : pieceOf a b = true := h
      cases a with
      | str s =>
        have h : (wordB s && withinD b 1 12) = true := h
        obtain ⟨h1, h2⟩ := (Bool.and_eq_true _ _).mp h
        obtain ⟨i, rfl, l, u⟩ := within_of h2
        refine ⟨s, i, rfl, ?_, rfl, l, u⟩
        show wd (decide (s = Str.ofString "rail")) = s
        by_cases e : s = Str.ofString "rail"
        · rw [decide_eq_true e, e]
          rfl
        · unfold wordB at h1
          rw [decide_eq_false e, Bool.false_or] at h1
          rw [decide_eq_false e, of_decide_eq_true h1]
          rfl
      | _ => exact absurd h (by simp [pieceOf])
    | [], h => exact absurd h (by simp [pieceG])
    | [_], h => exact absurd h (by simp [pieceG])
    | _ :: _ :: _ :: _, h => exact absurd h (by simp [pieceG])
  | _ => exact absurd h (by simp [pieceG])
theorem row_parts {ds : List PyData} (h : rowG (.tuple ds) = true) : 1 ≤ ds.length ∧ ds.length ≤ 8 ∧ ∀ d ∈ ds, pieceG d = true := by
  have h : (decide (1 ≤ ds.length) && (decide (ds.length ≤ 8) && ds.all pieceG)) = true := h
  simp only [Bool.and_eq_true, decide_eq_true_eq, List.all_eq_true] at h
  exact ⟨h.1, h.2.1, h.2.2⟩
theorem row_tup {d : PyData} (h : rowG d = true) : ∃ ds, d = .tuple ds := by
  cases d with
  | tuple ds => exact ⟨ds, rfl⟩
  | _ => exact absurd h (by simp [rowG])
def RowT (H : Hp) (v : V) (r : List Pc) : Prop := ∃ q ws, v = .ref q ∧ H q = some (.tup ws) ∧ PiecesAt H ws r ∧ RowOk r ∧ 1 ≤ r.length ∧ r.length ≤ 8
theorem RowT.same {H H' : Hp} {v : V} {r : List Pc} (h : RowT H v r) (s : Same H H') : RowT H' v r := by
  obtain ⟨q, ws, e, hq, hw, a⟩ := h
  exact ⟨q, ws, e, s _ _ hq, hw.same s, a⟩
theorem row_at {H : Hp} {v : V} {d : PyData} (h : Dr H v d) (g : rowG d = true) : RowT H v (rowOf d) := by
  obtain ⟨ds, rfl⟩ := row_tup g
  obtain ⟨l1, l8, hp⟩ := row_parts g
  obtain ⟨q, ws, rfl, hq, hw⟩ := h.tuple
  have len : (rowOf (.tuple ds)).length = ds.length := List.length_map ..
  refine ⟨q, ws, rfl, hq, ⟨by rw [len, hw.1], fun i p hpi => ?_⟩, fun p hp' => ?_, by omega, by omega⟩
  · obtain ⟨d, hd, rfl⟩ : ∃ d, ds[i]? = some d ∧ pcOf d = p := by
      have hpi : (ds.map pcOf)[i]? = some p := hpi
      rw [List.getElem?_map] at hpi
      cases e : ds[i]? with
      | none =>
        rw [e] at hpi
        cases hpi
      | some d =>
        rw [e] at hpi
        exact ⟨d, rfl, Option.some.inj hpi⟩
    obtain ⟨v, hv, hd'⟩ := hw.at_ hd
    obtain ⟨s, n, rfl, e1, e2, _⟩ := piece_of (hp d (List.mem_of_getElem? hd))
    obtain ⟨t, ys, rfl, ht, hy⟩ := hd'.tuple
    refine ⟨_, hv, t, rfl, ?_⟩
    match ys, hy with
    | [a, b], hy =>
      have h1 := hy.inv.1.toStr
      have h2 := hy.inv.2.inv.1.toInt
      rw [ht, h1, h2, e1, e2]
    | [], hy => exact absurd hy.1 (by simp)
    | [_], hy => exact absurd hy.1 (by simp)
    | _ :: _ :: _ :: _, hy => exact absurd hy.1 (by simp)
  · obtain ⟨d, hd, rfl⟩ := List.mem_map.mp hp'
    obtain ⟨_, _, _, _, _, ok⟩ := piece_of (hp d hd)
    exact ok
theorem num_of {d : PyData} (h : numG d = true) : (∃ i, d = .int i ∧ 0 ≤ i) ∨ ∃ a b, d = .tuple [.int a, .int b] ∧ Pos2 (a, b) := by
  cases d with
  | int i => exact .inl ⟨i, rfl, of_decide_eq_true h⟩
  | tuple ds =>
    match ds, h with
    | [a, b], h =>
      have h : numOf a b = true := h
      cases a with
      | int a =>
        cases b with
        | int b =>
          have h : (decide (a = 1 ∧ b = 0) || (decide (0 ≤ a) && decide (1 ≤ b))) = true := h
          simp only [Bool.or_eq_true, Bool.and_eq_true, decide_eq_true_eq] at h
          refine .inr ⟨a, b, rfl, ?_⟩
          unfold Pos2
          dsimp
          omega
        | _ => exact absurd h (by simp [numOf])
      | _ => exact absurd h (by simp [numOf])
    | [], h => exact absurd h (by simp [numG])
    | [_], h => exact absurd h (by simp [numG])
    | _ :: _ :: _ :: _, h => exact absurd h (by simp [numG])
  | _ => exact absurd h (by simp [numG])
theorem num_pos {d : PyData} (h : numG d = true) : Pos2 (prOf d) := by
  rcases num_of h with ⟨i, rfl, i0⟩ | ⟨a, b, rfl, p⟩
  · exact ⟨i0, by show (0 : Int) ≤ 1; decide, .inr (by show (0 : Int) < 1; decide)⟩
  · exact p
theorem res_num {d : PyData} (h : resG d = true) : numG d = true ∧ Sm 40 (prOf d).1 ∧ Sm 40 (prOf d).2 := by
  have p40 : (2 : Nat) ^ 40 = 1099511627776 := by decide
  cases d with
  | int i =>
    have h : (decide (0 ≤ i) && decide (i ≤ 1000000000000)) = true := h
    simp only [Bool.and_eq_true, decide_eq_true_eq] at h
    refine ⟨decide_eq_true h.1, ?_, by show Sm 40 1; unfold Sm; decide⟩
    show Sm 40 i
    unfold Sm
    omega
  | tuple ds =>
    match ds, h with
    | [a, b], h =>
      have h : resOf a b = true := h
      cases a with
      | int a =>
        cases b with
        | int b =>
          have h : (decide (a = 1 ∧ b = 0) || (decide (0 ≤ a) && decide (a ≤ 1000000000000) && (decide (1 ≤ b) && decide (b ≤ 1000000000000)))) = true := h
          simp only [Bool.or_eq_true, Bool.and_eq_true, decide_eq_true_eq] at h
          refine ⟨?_, ?_, ?_⟩
          · show (decide (a = 1 ∧ b = 0) || (decide (0 ≤ a) && decide (1 ≤ b))) = true
            simp only [Bool.or_eq_true, Bool.and_eq_true, decide_eq_true_eq]
            omega
          · show Sm 40 a
            unfold Sm
            omega
          · show Sm 40 b
            unfold Sm
            omega
        | _ => exact absurd h (by simp [resOf])
      | _ => exact absurd h (by simp [resOf])
    | [], h => exact absurd h (by simp [resG])
    | [_], h => exact absurd h (by simp [resG])
    | _ :: _ :: _ :: _, h => exact absurd h (by simp [resG])
  | _ => exact absurd h (by simp [resG])
def SmD (n : Nat) (d : PyData) : Prop := Sm n (prOf d).1 ∧ Sm n (prOf d).2
theorem pairof_of {H : Hp} {v : V} {d : PyData} {Q : VK} {E : XK} (h : Dr H v d) (n : numG d = true) (k : ∀ H' p, Same H H' → PairAt H' p (prOf d) → Q (.ref p) H') : spPairOf [v] H Q E := by
  rcases num_of n with ⟨i, rfl, i0⟩ | ⟨a, b, rfl, p⟩
  · cases h.toInt
    exact .inl ⟨i, rfl, fun H' p s np hp => k H' p s hp⟩
  · obtain ⟨t, ys, rfl, ht, hy⟩ := h.tuple
    refine .inr ⟨t, ys, rfl, ht, k H t (Same.refl _) ?_⟩
    match ys, hy with
    | [x, y], hy =>
      have h1 := hy.inv.1.toInt
      have h2 := hy.inv.2.inv.1.toInt
      rw [h1, h2] at ht
      exact ht
    | [], hy => exact absurd hy.1 (by simp)
    | [_], hy => exact absurd hy.1 (by simp)
    | _ :: _ :: _ :: _, hy => exact absurd hy.1 (by simp)
def spPairN : Sp := fun vs H Q _ => ∃ (v : V) (d : PyData), vs = [v] ∧ Dr H v d ∧ numG d = true ∧ ∀ H' p, Same H H' → PairAt H' p (prOf d) → Q (.ref p) H'
theorem pairN_weak (vs : List V) (H : Hp) (Q : VK) (E : XK) (h : spPairN vs H Q E) : spPairOf vs H Q E := by
  obtain ⟨v, d, rfl, hd, hn, k⟩ := h
  exact pairof_of hd hn k
def spMatOf : Sp := fun vs H Q _ => ∃ (v : V) (r : List Pc), vs = [v] ∧ RowT H v r ∧ ∀ H' m, Same H H' → H' m = some (.tup (MatT (matR r))) → Q (.ref m) H'
def spLS : Sp := fun vs H Q _ => ∃ (m : Addr) (r : List Pc) (v : V) (d : PyData) (n : Int), vs = [.ref m, v, .int n] ∧ H m = some (.tup (MatT (matR r))) ∧ RowOk r ∧ r.length ≤ 8 ∧ Dr H v d ∧ resG d = true ∧ 0 ≤ n ∧ n ≤ 100 ∧
  ∀ H' p, Same H H' → PairAt H' p (appN (matR r) n.toNat (prOf d)) → Q (.ref p) H'
def spSign : Sp := fun vs H Q _ => ∃ n : Int, vs = [.int n] ∧ Q (.int (sg n)) H
def spPO : Sp := fun vs H Q _ => ∃ (a b : Addr) (e f : Int × Int), vs = [.ref a, .ref b] ∧ PairAt H a e ∧ PairAt H b f ∧ Sm 4000 e.1 ∧ Sm 4000 e.2 ∧ Sm 4000 f.1 ∧ Sm 4000 f.2 ∧ Q (.int (sg (e.1 * f.2 - f.1 * e.2))) H
def valE (r l n x : PyData) : Bool := decide (sg ((appN (matR (rowOf r)) (cntOf n) (prOf l)).1 * (prOf x).2 - (prOf x).1 * (appN (matR (rowOf r)) (cntOf n) (prOf l)).2) = 0)
def valP : List PyData → PyData → Bool
  | [r, l, n, x], e => emptyG e && (rowG r && (resG l && (withinD n 0 100 && (numG x && valE r l n x))))
  | _, _ => false
def spCkV : Sp := fun vs H Q _ => ∃ (t : Addr) (ys : List V) (ds : List PyData) (u : V) (e : PyData), vs = [.ref t, u] ∧ H t = some (.tup ys) ∧ Drs H ys ds ∧ (∀ d ∈ ds, Nd d ∧ SmD 3990 d) ∧ Dr H u e ∧ Nd e ∧ ∀ H', Same H H' → Q (.bl (valP ds e)) H'
def spCkN (n : Nat) : Sp := fun vs H Q _ => ∃ (t : Addr) (ys : List V) (u : V), vs = [.ref t, u] ∧ H t = some (.tup ys) ∧ ys.length ≠ n ∧ Q (.bl false) H
def spCkN3 (n : Nat) : Sp := fun vs H Q _ => ∃ (t : Addr) (ys : List V) (u g : V), vs = [.ref t, u, g] ∧ H t = some (.tup ys) ∧ ys.length ≠ n ∧ Q (.bl false) H
section
variable {P : Program} {w : World} {K : PySem.W.Frag} {mg : Str → Option Value} {base : Heap} {tG t1 t3 tC tK : Tok} {aO aW aCh : Addr}
abbrev s_sign : Stmt := top 20
theorem sc_sign : FnScope ["number"] ["number"] (defScope s_sign) := ⟨rfl, rfl, rfl, by decide +kernel, rfl, by decide +kernel, by decide +kernel⟩

theorem ok_sign {f : Addr} {fd : FuncData} (F : Fun K "sign" "sign" s_sign f fd) : FnOk P w K mg base CX0 1 f fd ["number"] spSign := by
  refine F.ok sc_sign (fun vs H Q E h => ?_) (fun cdv A outer s H vs Q E hr h => ?_)
  · obtain ⟨n, rfl, _⟩ := h
    rfl
  · obtain ⟨n, rfl, k⟩ := h
    refine ⟨_, (pss_cons (ps_if (pt_cmpR op_gt (pv 0) pe_int (nomark _)) (pss_one (ps_ret pe_int)) pss_nil)
      (pss_cons (ps_if (pt_cmpR op_lt (pv 0) pe_int (nomark _)) (pss_one (ps_ret (pe_un un_neg pe_int))) pss_nil)
      (pss_one (ps_ret pe_int)))), ?_⟩
    unfold sg at k
    refine ⟨_, rfl, _, _, rfl, rfl, _, rfl, ite2 (fun e => ?_) (fun e => ?_)⟩
    · rw [if_pos (show 0 < n from of_decide_eq_true e)] at k
      exact k
    · rw [if_neg (show ¬ 0 < n from fun z => e (decide_eq_true z))] at k
      refine ⟨_, rfl, _, _, rfl, rfl, _, rfl, ite2 (fun e2 => ?_) (fun e2 => ?_)⟩
      · rw [if_pos (show n < 0 from of_decide_eq_true e2)] at k
        exact ⟨1, rfl, k⟩
      · rw [if_neg (show ¬ n < 0 from fun z => e2 (decide_eq_true z))] at k
        exact k
abbrev s_pair_order : Stmt := top 18
theorem sc_pair_order : FnScope ["first", "second"] ["first", "second"] (defScope s_pair_order) := ⟨rfl, rfl, rfl, by decide +kernel, rfl, by decide +kernel, by decide +kernel⟩

theorem ok_po {f : Addr} {fd : FuncData} (F : Fun K "pair_order" "pair_order" s_pair_order f fd) (D_sign : Df P w K mg base 1 "sign" ["number"] spSign) : FnOk P w K mg base CX0 2 f fd ["first", "second"] spPO := by
  refine F.ok sc_pair_order (fun vs H Q E h => ?_) (fun cdv A outer s H vs Q E hr h => ?_)
  · obtain ⟨a, b, e, f, rfl, _⟩ := h
    rfl
  · obtain ⟨a, b, e, f, rfl, ha, hb, e1, e2, f1, f2, k⟩ := h
    refine ⟨_, (pss_one (ps_ret (pe_df D_sign (hr.mono (by decide)) (by rfl) (pa_cons (pe_op op_sub (pe_op op_mulX (pe_ix ix_tup (pv 0) pe_int (fun _ _ => rfl)) (pe_ix ix_tup (pv 1) pe_int (fun _ _ => rfl))) (pe_op op_mulX (pe_ix ix_tup (pv 1) pe_int (fun _ _ => rfl)) (pe_ix ix_tup (pv 0) pe_int (fun _ _ => rfl)))) pa_nil)))), ?_⟩
    refine ⟨_, rfl, a, _, _, _, rfl, rfl, SqT.of ha, atI_nat (j := 0) rfl, _, rfl, b, _, _, _, rfl, rfl, SqT.of hb, atI_nat (j := 1) rfl, _, _, rfl, rfl, mx e1 f2, ?_⟩
    exact ⟨_, rfl, b, _, _, _, rfl, rfl, SqT.of hb, atI_nat (j := 0) rfl, _, rfl, a, _, _, _, rfl, rfl, SqT.of ha, atI_nat (j := 1) rfl, _, _, rfl, rfl, mx f1 e2, _, _, rfl, rfl, _, rfl, k⟩
abbrev s_is_empty : Stmt := top 86
theorem sc_is_empty : FnScope ["value"] ["value"] (defScope s_is_empty) := ⟨rfl, rfl, rfl, by decide +kernel, rfl, by decide +kernel, by decide +kernel⟩

theorem ok_emptyG {f : Addr} {fd : FuncData} (F : Fun K "is_empty" "is_empty" s_is_empty f fd) (T : Txt K mg) : FnOk P w K mg base CX0 1 f fd ["value"] (spEmptyG K) := by
  refine F.ok sc_is_empty (fun vs H Q E h => ?_) (fun cdv A outer s H vs Q E hr h => ?_)
  · obtain ⟨v, d, rfl, _⟩ := h
    rfl
  · obtain ⟨v, d, rfl, hd, k⟩ := h
    refine ⟨_, (pss_one (ps_ret (pe_and (pe_callB call_isi (by rfl) T.isinstance (by decide +kernel) (pa_cons (pv 0) (pa_cons (pe_bltn (v := .ty "tuple") (by rfl) T.tuple_ (by decide +kernel) rfl) pa_nil))) (pe_one (pe_cmpR op_eq (pe_callB call_len_seq (by rfl) T.len (by decide +kernel) (pa_cons (pv 0) pa_nil)) pe_int (nomark _)))))), ?_⟩
    refine ⟨_, rfl, _, _, _, _, isTupD d, rfl, .ty _, ty_dq hd, kit_tup d, _, rfl, ?_⟩
    cases h1 : isTupD d with
    | false =>
      have e : emptyG d = false := by cases d <;> first | rfl | exact absurd h1 (by simp [isTupD])
      rw [e] at k
      exact iteF k
    | true =>
      obtain ⟨ds, rfl⟩ : ∃ ds, d = .tuple ds := by cases d <;> first | exact ⟨_, rfl⟩ | exact absurd h1 (by simp [isTupD])
      obtain ⟨t, ys, rfl, hs, hall, _⟩ := dq_tup hd
      have el := dpAll_len hall
      refine iteT ⟨_, rfl, t, _, rfl, .inr hs, rfl, ?_⟩
      have e : decide (V.int (ys.length : Int) = V.int 0) = emptyG (.tuple ds) := by
        cases ds with
        | nil =>
          rw [el]
          rfl
        | cons a b =>
          refine decide_eq_false fun z => ?_
          have := V.int.inj z
          rw [el, List.length_cons] at this
          omega
      rw [← e] at k
      exact k
abbrev s_matrix_of : Stmt := top 88
theorem sc_matrix_of : FnScope ["row"] ["row"] (defScope s_matrix_of) := ⟨rfl, rfl, rfl, by decide +kernel, rfl, by decide +kernel, by decide +kernel⟩

theorem ok_matof {f : Addr} {fd : FuncData} (F : Fun K "matrix_of" "matrix_of" s_matrix_of f fd) (D_matrix_and_scale : Df P w K mg base 1 "matrix_and_scale" ["row"] spMat) : FnOk P w K mg base CX0 2 f fd ["row"] spMatOf := by
  refine F.ok sc_matrix_of (fun vs H Q E h => ?_) (fun cdv A outer s H vs Q E hr h => ?_)
  · obtain ⟨v, r, rfl, _⟩ := h
    rfl
  · obtain ⟨v, r, rfl, ⟨q, ws, rfl, hq, hw, hok, l1, l8⟩, k⟩ := h
    refine ⟨_, (pss_one (ps_ret (pe_ix ix_tup (pe_df D_matrix_and_scale (hr.mono (by decide)) (by rfl) (pa_cons (pv 0) pa_nil)) pe_int (fun _ _ => rfl)))), ?_⟩
    exact ⟨_, rfl, q, ws, r, rfl, hq, hw, hok, l8, fun H' p m s hp hm np nm => ⟨p, _, _, _, rfl, rfl, SqT.of hp, atI_nat (j := 0) rfl, k _ m s hm⟩⟩
abbrev s_ladder_shows : Stmt := top 89
end
end RL

set_option maxHeartbeats 2000000
namespace RL
open PySem L2 PySem.Spec PyProof.Rows
def spAcc (K : PySem.W.Frag) (aCh : Addr) (S : Addr → Option Sp) : Sp := fun vs H Q _ => ∃ (v u : V) (d : PyData), vs = [v, u] ∧ Dr H v d ∧
  (∀ s r, d = .tuple (.str s :: r) → (PySem.W.nsIn K aCh s = some none ∧ Q (.bl false) H) ∨ ∃ f sp, PySem.W.nsIn K aCh s = some (some (.ref f)) ∧ S f = some sp ∧ ∀ H' t ys, Same H H' → H' t = some (.tup ys) → Drs H' ys r → sp [.ref t, u] H' Q (fun _ _ _ => False)) ∧
  ((¬ ∃ s r, d = .tuple (.str s :: r)) → Q (.bl false) H)
theorem cut_tail1 (x : V) (xs : List V) : cutV (x :: xs) (some 1) none = xs := by
  have e : HT.sIx (x :: xs).length 0 (some 1) = 1 := by
    have := HT.sIx_nat (x :: xs).length 0 1
    rw [List.length_cons] at this ⊢
    exact this.trans (by omega)
  unfold cutV
  rw [HT.sIx_none, e, List.drop_succ_cons, List.drop_zero, List.take_of_length_le (by rw [List.length_cons]; omega)]
section
variable {P : Program} {w : World} {K : PySem.W.Frag} {mg : Str → Option Value} {base : Heap} {tG t1 t3 tC tK : Tok} {aO aW aCh : Addr}
abbrev s_accepts : Stmt := top 103
theorem sc_accepts : FnScope ["claim", "certificate", "check"] ["claim", "certificate"] (defScope s_accepts) := ⟨rfl, rfl, rfl, by decide +kernel, rfl, by decide +kernel, by decide +kernel⟩

abbrev s_check_value : Stmt := top 90
abbrev s_check_never : Stmt := top 95
theorem sc_check_never : FnScope ["places", "certificate"] ["places", "certificate"] (defScope s_check_never) := ⟨rfl, rfl, rfl, by decide +kernel, rfl, by decide +kernel, by decide +kernel⟩

abbrev s_check_bound : Stmt := top 91
abbrev s_check_most : Stmt := top 92
end
end RL

set_option maxHeartbeats 2000000
namespace RL
open PySem L2 PySem.Spec PyProof.Rows
/-! ### written data -/
def fresh (H H' : Hp) : Hp := fun b => match H b with
  | none => H' b
  | some _ => none
theorem fresh_get {H H' : Hp} {b : Addr} {o : HO} (h : fresh H H' b = some o) : H b = none ∧ H' b = some o := by
  unfold fresh at h
  cases e : H b with
  | none =>
    rw [e] at h
    exact ⟨rfl, h⟩
  | some u =>
    rw [e] at h
    cases h
theorem fresh_of {H H' : Hp} {b : Addr} {o : HO} (n : H b = none) (h : H' b = some o) : fresh H H' b = some o := by
  unfold fresh
  rw [n]
  exact h
def Dn (H H' : Hp) (v : V) (d : PyData) : Prop := Dr (fresh H H') v d
def Dns (H H' : Hp) (v : List V) (d : List PyData) : Prop := Drs (fresh H H') v d
theorem fresh_up {H H1 H2 : Hp} (s : Same H1 H2) : Same (fresh H H1) (fresh H H2) := fun b o e => by
  obtain ⟨n, h⟩ := fresh_get e
  exact fresh_of n (s _ _ h)
theorem fresh_dn {H H1 H2 : Hp} (s : Same H H1) : Same (fresh H1 H2) (fresh H H2) := fun b o e => by
  obtain ⟨n, h⟩ := fresh_get e
  refine fresh_of ?_ h
  cases q : H b with
  | none => rfl
  | some u =>
    rw [s _ _ q] at n
    cases n
theorem fresh_hid {c : Addr} {H H' : Hp} {x : HO} (n : H c = some x) : Same (fresh H H') (hid c H') := fun b o e => by
  obtain ⟨m, h⟩ := fresh_get e
  refine hid_of h ?_
  rintro rfl
  rw [n] at m
  cases m
theorem Dn.dh {c : Addr} {H H' : Hp} {v : V} {d : PyData} {x : HO} (h : Dn H H' v d) (n : H c = some x) : Dh c H' v d := Dr.mono h (fresh_hid n)
theorem Dn.tape {c : Addr} {k : Nat} {H H' : Hp} {v : V} {d : PyData} (h : Dn H H' v d) (t : TapeAt c k H) : Dh c H' v d := by
  obtain ⟨_, _, _, e, _⟩ := t
  exact h.dh e
theorem Dns.tape {c : Addr} {k : Nat} {H H' : Hp} {v : List V} {d : List PyData} (h : Dns H H' v d) (t : TapeAt c k H) : Dhs c H' v d := by
  obtain ⟨_, _, _, e, _⟩ := t
  exact Drs.mono h (fresh_hid e)
theorem Dn.dr {H H' : Hp} {v : V} {d : PyData} (h : Dn H H' v d) : Dr H' v d := Dr.mono h fun b o e => (fresh_get e).2
def tData (d : PyData) : TE := fun _ H Q => ∀ H' v, Same H H' → Dn H H' v d → Q v H'
def tDatas (ds : List PyData) : TA := fun _ H Q => ∀ H' vs, Same H H' → Dns H H' vs ds → Q vs H'
section
variable {X : Cx} {e : Expr} {es : List Expr} {t t' : TE} {ta ta' : TA} {d : PyData} {ds : List PyData} {pos : Pos}
theorem pe_weak (h : PE X e t') (w : ∀ σ H Q, t σ H Q → t' σ H Q) : PE X e t := ⟨fun pins s σ H Q I q => h.run pins s σ H Q I (w _ _ _ q)⟩
theorem pa_weak (h : PA X es ta') (w : ∀ σ H Q, ta σ H Q → ta' σ H Q) : PA X es ta := ⟨fun p pins s σ H Q I q => h.run p pins s σ H Q I (w _ _ _ q)⟩
theorem pd_int {i : Int} {j p} : PE X (.Constant (.int i) j p) (tData (.int i)) := pe_weak pe_int fun _ H Q q => q H _ (Same.refl _) (.int _)
theorem pd_bl {b : Bool} {j p} : PE X (.Constant (.bool b) j p) (tData (.bool b)) := pe_weak pe_bl fun _ H Q q => q H _ (Same.refl _) (.bl _)
theorem pd_non {j p} : PE X (.Constant .none j p) (tData .none) := pe_weak pe_non fun _ H Q q => q H _ (Same.refl _) .non
theorem pd_str {x : Str} {j p} : PE X (.Constant (.str x) j p) (tData (.str x)) := pe_weak pe_str fun _ H Q q => q H _ (Same.refl _) (.str _)
theorem pd_dict : PE X (.Dict [] [] pos) (tData (.dict [])) := pe_weak pe_dnewK fun _ H Q q p np => q _ _ (same_upd np) (.dk (fresh_of np upd_same))
theorem pds_nil : PA X [] (tDatas []) := pa_weak pa_nil fun _ H Q q => q H [] (Same.refl _) Drs.nil
theorem pds_cons (ha : PE X e (tData d)) (hr : PA X es (tDatas ds)) (hs : starEach (e :: es) X.env = (false, eval e X.env) :: starEach es X.env := by rfl) : PA X (e :: es) (tDatas (d :: ds)) :=
  pa_weak (pa_cons ha hr hs) fun _ H Q q H1 v s1 h1 H2 vs s2 h2 => q H2 (v :: vs) (s1.trans s2) (Drs.cons (Dr.mono h1 (fresh_up s2)) (Drs.mono h2 (fresh_dn s1)))
theorem pd_tup {x1} (h : PA X es (tDatas ds)) (l : ds.length ≤ 1000 := by decide) : PE X (.Tuple es x1 pos) (tData (.tuple ds)) :=
  pe_weak (pe_tup h) fun _ H Q q H1 vs s1 h1 => ⟨by rw [h1.1]; exact Nat.le_trans l (by decide), fun p np => q _ _ (s1.trans (same_upd np)) (Dr.ts (fresh_of (s1.free np) upd_same) (Drs.mono h1 (fresh_up (same_upd np))))⟩
theorem pd_lst (h : PA X es (tDatas ds)) (l : ds.length ≤ 1000 := by decide) : PE X (.List es pos) (tData (.list ds)) :=
  pe_weak (pe_lst h) fun _ H Q q H1 vs s1 h1 => ⟨by rw [h1.1]; exact Nat.le_trans l (by decide), fun p np => q _ _ (s1.trans (same_upd np)) (Dr.ls (fresh_of (s1.free np) upd_same) (Drs.mono h1 (fresh_up (same_upd np))))⟩
theorem pd_neg {i : Int} (h : PE X e (tData (.int i))) : PE X (.UnaryOp .USub e pos) (tData (.int (-i))) :=
  pe_weak (pe_un un_neg h) fun _ H Q q H1 v s1 h1 => ⟨i, h1.toInt, q H1 _ s1 (.int _)⟩
theorem pd_pow {f : Expr} {a b : Int} (h : PE X e (tData (.int a))) (h' : PE X f (tData (.int b))) (o : 0 ≤ b ∧ b ≤ 1000000 ∧ a.natAbs < 2 ^ 64 := by decide) : PE X (.BinOp e .Pow f pos) (tData (.int (a ^ b.toNat))) :=
  pe_weak (pe_op op_pow h h') fun _ H Q q H1 v s1 h1 H2 u s2 h2 => ⟨a, b, h1.toInt, h2.toInt, o, q H2 _ (s1.trans s2) (.int _)⟩
theorem pd_add {f : Expr} {a b : Int} (h : PE X e (tData (.int a))) (h' : PE X f (tData (.int b))) : PE X (.BinOp e .Add f pos) (tData (.int (a + b))) :=
  pe_weak (pe_op op_add h h') fun _ H Q q H1 v s1 h1 H2 u s2 h2 => ⟨a, b, h1.toInt, h2.toInt, q H2 _ (s1.trans s2) (.int _)⟩
theorem pd_sub {f : Expr} {a b : Int} (h : PE X e (tData (.int a))) (h' : PE X f (tData (.int b))) : PE X (.BinOp e .Sub f pos) (tData (.int (a - b))) :=
  pe_weak (pe_op op_sub h h') fun _ H Q q H1 v s1 h1 H2 u s2 h2 => ⟨a, b, h1.toInt, h2.toInt, q H2 _ (s1.trans s2) (.int _)⟩
end
/-! tuples put together and cut, told at once -/
def rCatB : R2 := fun x y H Q => ∃ a b xs ys, x = .ref a ∧ y = .ref b ∧ H a = some (.tup xs) ∧ H b = some (.tup ys) ∧ xs.length + ys.length ≤ 1000 ∧ ∀ H' r, Same H H' → H' r = some (.tup (xs ++ ys)) → Q (.ref r) H'
theorem op_catB {X : Cx} : OpR X (binaryOp .Add) rCatB := fun pins s σ H x y v u Q I rx ry h => by
  obtain ⟨a, b, xs, ys, rfl, rfl, ha, hb, l, k⟩ := h
  refine op_catA pins s σ H _ _ v u Q I rx ry ⟨a, b, xs, ys, rfl, rfl, SqT.of ha, SqT.of hb, Nat.le_trans l (by decide), fun e => ?_, fun _ e => ?_, fun _ _ p np => k _ p (same_upd np) upd_same⟩
  · subst e
    exact k H b (Same.refl _) hb
  · subst e
    exact k H a (Same.refl _) (by rw [List.append_nil]; exact ha)
def rSlB : V → Option Int → Option Int → Hp → VK → Prop := fun x lo hi H Q => ∃ a xs, x = .ref a ∧ H a = some (.tup xs) ∧ ∀ H' r, Same H H' → H' r = some (.tup (cutV xs lo hi)) → Q (.ref r) H'
theorem sl_tupB {X : Cx} : L2.SlR X rSlB := fun pins s σ H x v vl vu lo hi sl Q I rx hs pl pu h => by
  obtain ⟨a, xs, rfl, ha, k⟩ := h
  refine sl_tupA pins s σ H _ v vl vu lo hi sl Q I rx hs pl pu ⟨a, xs, rfl, SqT.of ha, fun e => ?_, fun _ p np => k _ p (same_upd np) upd_same⟩
  refine k H a (Same.refl _) ?_
  rw [ha]
  unfold cutV
  rw [e.1, e.2, List.drop_zero, Nat.sub_zero, List.take_length]
theorem cutT {xs : List V} {i : Nat} (h : i ≤ xs.length) : cutV xs none (some (i : Int)) = xs.take i := by
  unfold cutV
  rw [HT.sIx_none, HT.sIx_nat, Nat.min_eq_left h, Nat.sub_zero, List.drop_zero]
theorem cutD {xs : List V} {i : Nat} (h : i ≤ xs.length) : cutV xs (some (i : Int)) none = xs.drop i := by
  unfold cutV
  rw [HT.sIx_none, HT.sIx_nat, Nat.min_eq_left h, List.take_of_length_le (by rw [List.length_drop]; omega)]
end RL

set_option maxHeartbeats 2000000
namespace RL
open PySem L2 PySem.Spec PyProof.Rows
theorem PiecesAt.rev {H : Hp} {vs : List V} {r : List Pc} (h : PiecesAt H vs r) : PiecesAt H vs.reverse r.reverse := by
  refine ⟨by rw [List.length_reverse, List.length_reverse, h.1], fun i p hp => ?_⟩
  have hi : i < r.length := by
    have := (List.getElem?_eq_some_iff.mp hp).1
    rw [List.length_reverse] at this
    exact this
  rw [List.getElem?_reverse hi] at hp
  obtain ⟨v, hv, q⟩ := h.2 _ p hp
  refine ⟨v, ?_, q⟩
  rw [List.getElem?_reverse (by rw [h.1]; exact hi), h.1]
  exact hv
theorem RowOk.rev {r : List Pc} (h : RowOk r) : RowOk r.reverse := fun p hp => h p (List.mem_reverse.mp hp)
theorem walk_act (l : List Pc) (e : Int × Int) : l.foldl (fun e p => act p e) e = actR l.reverse e := by
  unfold actR
  rw [List.foldr_reverse]
theorem actR_sm {r : List Pc} {e : Int × Int} {n : Nat} (hr : RowOk r) (l8 : r.length ≤ 8) (h1 : Sm n e.1) (h2 : Sm n e.2) : Sm (n + 31) (actR r e).1 ∧ Sm (n + 31) (actR r e).2 := by
  have := app_sm (matR_sm30 hr l8) h1 h2
  rw [mat_app] at this
  exact ⟨this.1.mono (by omega), this.2.mono (by omega)⟩
theorem low_int (i : Int) : low (i, 1) = (i, 1) := by
  have h1 : gc i 1 = 1 := by
    have := Int.le_of_dvd (by decide) (gc_dvd2 i 1)
    have := gc_pos (a := i) (b := 1) (by omega)
    omega
  unfold low
  dsimp
  rw [h1, Int.ediv_one]
  rfl
def spLed : Sp := fun vs H Q _ => ∃ (v : V) (t : Addr) (r : List Pc) (e : Int × Int), vs = [v, .ref t] ∧ RowT H v r ∧ PairAt H t e ∧ Sm 3900 e.1 ∧ Sm 3900 e.2 ∧ ∀ H' p, Same H H' → H p = none → PairAt H' p (actR r e) → Q (.ref p) H'
def spAfter : Sp := fun vs H Q _ => ∃ (v : V) (t : Addr) (r : List Pc) (e : Int × Int) (n : Int), vs = [v, .ref t, .int n] ∧ RowT H v r ∧ PairAt H t e ∧ Pos2 e ∧ Sm 700 e.1 ∧ Sm 700 e.2 ∧ 0 ≤ n ∧ n ≤ 100 ∧ ∀ H' p, Same H H' → H p = none → PairAt H' p (low (appN (matR r) n.toNat e)) → Q (.ref p) H'
def spFrac : Sp := fun vs H Q _ => ∃ (v : V) (d : PyData), vs = [v] ∧ Dr H v d ∧ numG d = true ∧ SmD 4000 d ∧ ∀ H' p, Same H H' → H p = none → PairAt H' p (low (prOf d)) → Q (.ref p) H'
def spIsLoad : Sp := fun vs H Q _ => ∃ (v : V) (d : PyData), vs = [v] ∧ Dr H v d ∧ Nd d ∧ ∀ H', Same H H' → Q (.bl (resG d)) H'
def spIsNum : Sp := fun vs H Q _ => ∃ (v : V) (d : PyData), vs = [v] ∧ Dr H v d ∧ Nd d ∧ ∀ H', Same H H' → Q (.bl (numG d)) H'
def spIsRow : Sp := fun vs H Q _ => ∃ (v : V) (d : PyData), vs = [v] ∧ Dr H v d ∧ Nd d ∧ ∀ H', Same H H' → Q (.bl (rowG d)) H'
def spWhole : Sp := fun vs H Q _ => ∃ (v : V) (d : PyData) (lo hi : Int), vs = [v, .int lo, .int hi] ∧ Dr H v d ∧ Q (.bl (withinD d lo hi)) H
section
variable {P : Program} {w : World} {K : PySem.W.Frag} {mg : Str → Option Value} {base : Heap} {tG t1 t3 tC tK : Tok} {aO aW aCh : Addr}
abbrev s_law_lowest : Stmt := top 108
theorem sc_law_lowest : FnScope ["_law_top", "_law_bottom", "_law_one", "_law_two"] ["_law_top", "_law_bottom"] (defScope s_law_lowest) := ⟨rfl, rfl, rfl, by decide +kernel, rfl, by decide +kernel, by decide +kernel⟩

theorem ok_lowest {f : Addr} {fd : FuncData} (F : Fun K "_law_lowest" "_law_lowest" s_law_lowest f fd) (T : Txt K mg) : FnOk P w K mg base CX0 1 f fd ["_law_top", "_law_bottom"] spPair := by
  refine F.ok sc_law_lowest (fun vs H Q E h => ?_) (fun cdv A outer s H vs Q E hr h => ?_)
  · obtain ⟨t, b, rfl, _⟩ := h
    rfl
  · obtain ⟨t, b, rfl, tb, ts, bs, k⟩ := h
    obtain ⟨t0, b0, _⟩ := id tb
    refine ⟨_, (pss_cons (ps_par (by rfl) sc_law_lowest.nd (i := 2) (j := 3) rfl rfl (by decide) rfl rfl (pa_cons (pv 0) (pa_cons (pv 1) pa_nil)) (by rfl))
      (pss_cons (ps_while PassesOwn.never (pt_cmpR op_gt (pv 3) pe_int (nomark _)) (pss_one (ps_par (by rfl) sc_law_lowest.nd (i := 2) (j := 3) rfl rfl (by decide) rfl rfl (pa_cons (pv 3) (pa_cons (pe_op op_mod (pe_callTy call_int1 (by rfl) T.int_ (by decide +kernel) (pa_cons (pv 2) pa_nil)) (pe_callTy call_int1 (by rfl) T.int_ (by decide +kernel) (pa_cons (pv 3) pa_nil))) pa_nil)) (by rfl))))
      (pss_one (ps_ret (pe_tup (pa_cons (pe_op op_fdivW (pv 0) (pv 2)) (pa_cons (pe_op op_fdivW (pv 1) (pv 2)) pa_nil))))))), ?_⟩
    refine ⟨_, rfl, _, rfl, _, _, rfl, ?_⟩
    refine while_by (fun σ H' => H' = H ∧ ∃ x y : Int, σ = [some (.int t), some (.int b), some (.int x), some (.int y)] ∧ 0 ≤ x ∧ 0 ≤ y ∧ gc x y = gc t b) (fun σ _ => match σ with | [_, _, _, some (.int y)] => y.toNat | _ => 0) ⟨rfl, t, b, rfl, t0, b0, rfl⟩ ?_ ?_
    · rintro σ H' ⟨rfl, x, y, rfl, x0, y0, eg⟩
      refine ⟨_, rfl, _, _, rfl, rfl, _, rfl, ite2 (fun e => ?_) (fun e => ?_)⟩
      · have e0 : 0 < y := of_decide_eq_true e
        refine ⟨_, rfl, _, rfl, .inl ⟨_, rfl, _, rfl, .inl ⟨_, rfl, _, _, rfl, rfl, e0, _, _, rfl, ?_⟩⟩⟩
        have q1 := Int.emod_nonneg x (show y ≠ 0 by omega)
        have q2 := Int.emod_lt_of_pos x e0
        refine ⟨⟨rfl, y, x % y, rfl, y0, q1, ?_⟩, ?_⟩
        · rw [gc_step x0 e0, eg]
        · show (x % y).toNat < y.toNat
          omega
      · have e0 : ¬ 0 < y := fun z => e (decide_eq_true z)
        have y1 : y = 0 := by omega
        subst y1
        rw [gc_zero x0] at eg
        have g0 : 0 < gc t b := gc_pos2 tb
        have gs : Sm 4000 x := by
          rw [eg]
          exact gc_sm tb ts bs
        subst eg
        refine ⟨_, rfl, _, rfl, _, _, rfl, rfl, wide_div g0 gs (by decide) (by decide), _, rfl, _, rfl, _, _, rfl, rfl, wide_div g0 gs (by decide) (by decide), (by show 2 ≤ sizeLine; decide), fun p hp => ?_⟩
        exact k _ _ (same_upd hp) hp upd_same
    · rintro σ H' Q1 Q2 hq h
      obtain ⟨v, e1, i, j, e2, e3, z⟩ := h
      exact ⟨v, e1, i, j, e2, e3, z.imp fun k z => ⟨z.1, hq _ _ z.2⟩⟩
abbrev s_law_frac : Stmt := top 109
theorem sc_law_frac : FnScope ["_law_thing"] ["_law_thing"] (defScope s_law_frac) := ⟨rfl, rfl, rfl, by decide +kernel, rfl, by decide +kernel, by decide +kernel⟩

theorem ok_frac {f : Addr} {fd : FuncData} (F : Fun K "_law_frac" "_law_frac" s_law_frac f fd) (T : Txt K mg) (D_law_lowest : Df P w K mg base 1 "_law_lowest" ["_law_top", "_law_bottom"] spPair) : FnOk P w K mg base CX0 2 f fd ["_law_thing"] spFrac := by
  refine F.ok sc_law_frac (fun vs H Q E h => ?_) (fun cdv A outer s H vs Q E hr h => ?_)
  · obtain ⟨v, d, rfl, _⟩ := h
    rfl
  · obtain ⟨v, d, rfl, hd, hn, hs, k⟩ := h
    refine ⟨_, (pss_one (ps_ret (pe_ifExp (pt_val (pe_callB call_isi (by rfl) T.isinstance (by decide +kernel) (pa_cons (pv 0) (pa_cons (pe_bltn (v := .ty "tuple") (by rfl) T.tuple_ (by decide +kernel) rfl) pa_nil)))) (pe_df D_law_lowest (hr.mono (by decide)) (by rfl) (pa_cons (pe_ix ix_tup (pv 0) pe_int (fun _ _ => rfl)) (pa_cons (pe_ix ix_tup (pv 0) pe_int (fun _ _ => rfl)) pa_nil))) (pe_tup (pa_cons (pv 0) (pa_cons pe_int pa_nil)))))), ?_⟩
    refine ⟨_, rfl, _, _, _, _, isTupD d, rfl, .ty _, ty_dr hd, kit_tup d, _, rfl, ?_⟩
    rcases num_of hn with ⟨i, rfl, i0⟩ | ⟨a, b, rfl, p⟩
    · cases hd.toInt
      refine iteF ⟨_, rfl, (by show 2 ≤ sizeLine; decide), fun p np => k _ p (same_upd np) np ?_⟩
      show PairAt _ p (low (i, 1))
      rw [low_int]
      exact upd_same
    · obtain ⟨t, ys, rfl, ht, hy⟩ := hd.tuple
      obtain ⟨rfl⟩ : ys = [.int a, .int b] := by
        match ys, hy with
        | [x, y], hy =>
          have h1 := hy.inv.1.toInt
          have h2 := hy.inv.2.inv.1.toInt
          rw [h1, h2]
        | [], hy => exact absurd hy.1 (by simp)
        | [_], hy => exact absurd hy.1 (by simp)
        | _ :: _ :: _ :: _, hy => exact absurd hy.1 (by simp)
      refine iteT ⟨_, rfl, t, _, _, _, rfl, rfl, SqT.of ht, atI_nat (j := 0) rfl, _, rfl, t, _, _, _, rfl, rfl, SqT.of ht, atI_nat (j := 1) rfl, ?_⟩
      exact ⟨a, b, rfl, p, hs.1, hs.2, fun H' q s nq hq => k _ q s nq hq⟩
abbrev s_law_led : Stmt := top 111
theorem sc_law_led : FnScope ["_law_row", "_law_pair", "_law_top", "_law_bottom", "_law_word", "_law_size"] ["_law_row", "_law_pair"] (defScope s_law_led) := ⟨rfl, rfl, rfl, by decide +kernel, rfl, by decide +kernel, by decide +kernel⟩

theorem ok_led {f : Addr} {fd : FuncData} (F : Fun K "_law_led" "_law_led" s_law_led f fd) : FnOk P w K mg base CX0 1 f fd ["_law_row", "_law_pair"] spLed := by
  refine F.ok sc_law_led (fun vs H Q E h => ?_) (fun cdv A outer s H vs Q E hr h => ?_)
  · obtain ⟨v, t, r, e, rfl, _⟩ := h
    rfl
  · obtain ⟨v, p, r, e, rfl, ⟨a, ws, rfl, ha, hw, hok, _, l8⟩, hp, es1, es2, k⟩ := h
    refine ⟨_, (pss_cons (ps_asg (pv 1) (pg_tup rfl (pgs_cons (pg_name (i := 2) sc_law_led.nd rfl (.inl rfl)) (pgs_cons (pg_name (i := 3) sc_law_led.nd rfl (.inl rfl)) pgs_nil))))
      (pss_cons (ps_for PassesOwn.never rfl (pi_tup (pe_revT (pv 0))) (pg_tup rfl (pgs_cons (pg_name (i := 4) sc_law_led.nd rfl (.inl rfl)) (pgs_cons (pg_name (i := 5) sc_law_led.nd rfl (.inl rfl)) pgs_nil))) (pss_one (ps_if (pt_cmpR op_eq (pv 4) pe_str (nomark _)) (pss_one (ps_set (i := 2) sc_law_led.nd rfl (.inl rfl) (pe_op op_add (pv 2) (pe_op op_mulX (pv 5) (pv 3))))) (pss_one (ps_par (by rfl) sc_law_led.nd (i := 2) (j := 3) rfl rfl (by decide) rfl rfl (pa_cons (pe_op op_mulX (pv 5) (pv 2)) (pa_cons (pe_op op_add (pe_op op_mulX (pv 5) (pv 3)) (pv 2)) pa_nil)) (by rfl))))))
      (pss_one (ps_ret (pe_tup (pa_cons (pv 2) (pa_cons (pv 3) pa_nil))))))), ?_⟩
    refine ⟨_, rfl, p, _, rfl, SqT.of hp, rfl, _, _, rfl, _, _, rfl, rfl, ?_⟩
    refine ⟨_, rfl, a, ws, rfl, SqT.of ha, fun q nq => ?_⟩
    have s1 := same_upd (o := .tup ws.reverse) nq
    have hq : (upd H q (.tup ws.reverse)) q = some (.tup ws.reverse) := upd_same
    generalize upd H q (.tup ws.reverse) = H1 at *
    have hwr := (hw.same s1).rev
    refine ⟨q, rfl, ⟨_, SqT.of hq⟩, for_tup (K := K) (a := q) (xs := ws.reverse) (fun i σ H' => H' = H1 ∧ ∃ v1 v2, σ = [some (.ref a), some (.ref p), some (.int ((r.reverse.take i).foldl (fun e p => act p e) e).1), some (.int ((r.reverse.take i).foldl (fun e p => act p e) e).2), v1, v2]) ⟨rfl, none, none, rfl⟩ (fun i σ H' _ h => by rw [h.1]; exact SqT.of hq) ?_ ?_⟩
    · rintro i y σ H' hx ⟨rfl, v1, v2, rfl⟩
      obtain ⟨pc, hpc, t, rfl, ht⟩ := hwr.at_ hx
      have hi : i < r.length := by
        have := (List.getElem?_eq_some_iff.mp hpc).1
        rw [List.length_reverse] at this
        exact this
      have f1 : (r.reverse.take (i + 1)).foldl (fun e p => act p e) e = act pc ((r.reverse.take i).foldl (fun e p => act p e) e) := by rw [take_snoc hpc, List.foldl_append]; rfl
      have okt : RowOk (r.reverse.take i).reverse := fun z hz => hok z (List.mem_reverse.mp (List.mem_of_mem_take (List.mem_reverse.mp hz)))
      have len : (r.reverse.take i).reverse.length ≤ 8 := by
        rw [List.length_reverse, List.length_take]
        omega
      have ms := actR_sm okt len es1 es2
      rw [← walk_act] at ms
      have po := ohm_sm (hok.rev.at_ hpc)
      rw [f1]
      generalize (r.reverse.take i).foldl (fun e p => act p e) e = g at *
      refine ⟨t, _, rfl, SqT.of ht, rfl, _, _, rfl, _, _, rfl, rfl, ?_⟩
      refine ⟨_, rfl, rfl, _, rfl, ite2 (fun e => ?_) (fun e => ?_)⟩
      · have r1 : pc.1 = true := wd_inj (r' := true) (V.str.inj (of_decide_eq_true e))
        unfold act
        rw [if_pos r1]
        exact ⟨_, rfl, _, rfl, _, rfl, _, _, rfl, rfl, mx po ms.2, _, _, rfl, rfl, rfl, _, _, rfl⟩
      · have r1 : ¬ pc.1 = true := fun z => e (decide_eq_true (by rw [z]; rfl))
        unfold act
        rw [if_neg r1]
        dsimp only
        rw [Int.add_comm g.1]
        exact ⟨_, rfl, _, rfl, _, _, rfl, rfl, mx po ms.1, _, rfl, _, rfl, _, _, rfl, rfl, mx po ms.2, _, rfl, _, _, rfl, rfl, _, _, rfl, rfl, _, _, rfl⟩
    · rintro σ H' ⟨rfl, v1, v2, rfl⟩
      have e0 : (r.reverse.take ws.reverse.length).foldl (fun e p => act p e) e = actR r e := by
        rw [List.length_reverse, hw.1, ← List.length_reverse, List.take_length, walk_act, List.reverse_reverse]
      rw [e0]
      exact ⟨_, rfl, _, rfl, (by show 2 ≤ sizeLine; decide), fun t nt => k _ t (s1.trans (same_upd nt)) (s1.free nt) upd_same⟩
end
end RL

set_option maxHeartbeats 2000000
namespace RL
open PySem L2 PySem.Spec PyProof.Rows
theorem PiecesAt.app {H : Hp} {vs vs' : List V} {r r' : List Pc} (h : PiecesAt H vs r) (h' : PiecesAt H vs' r') : PiecesAt H (vs ++ vs') (r ++ r') := by
  refine ⟨by rw [List.length_append, List.length_append, h.1, h'.1], fun i p hp => ?_⟩
  by_cases hi : i < r.length
  · rw [List.getElem?_append_left hi] at hp
    obtain ⟨v, hv, q⟩ := h.2 _ p hp
    exact ⟨v, by rw [List.getElem?_append_left (by rw [h.1]; exact hi)]; exact hv, q⟩
  · rw [List.getElem?_append_right (by omega)] at hp
    obtain ⟨v, hv, q⟩ := h'.2 _ p hp
    exact ⟨v, by rw [List.getElem?_append_right (by rw [h.1]; omega), h.1]; exact hv, q⟩
theorem parts_split {r : List Pc} (hok : RowOk r) (l1 : 1 ≤ r.length) : Txt.split (rowTx r) (Str.ofString ", ") = r.map ptx := by
  refine TL.split_join (s := 44) (S := [32]) (by decide +kernel) (by decide +kernel) (fun z => ?_) (fun p hp => ?_)
  · have := congrArg List.length z
    rw [List.length_map] at this
    have e0 : ([] : List Str).length = 0 := rfl
    omega
  · obtain ⟨q, hq, rfl⟩ := List.mem_map.mp hp
    exact ptx_free (hok q hq)
theorem join_len (y : Str) : ∀ l : List Str, (Str.join y l).length ≤ (l.map (·.length)).sum + l.length * y.length
  | [] => by
    show (Str.join y []).length ≤ _
    exact Nat.zero_le _
  | [x] => by
    show x.length ≤ _
    simp
  | x :: z :: l => by
    have ih := join_len y (z :: l)
    show (x ++ y ++ Str.join y (z :: l)).length ≤ _
    rw [Str.length_append, Str.length_append]
    simp only [List.map_cons, List.sum_cons, List.length_cons] at ih ⊢
    have : (l.length + 1 + 1) * y.length = (l.length + 1) * y.length + y.length := Nat.succ_mul _ _
    omega
theorem sum_len {r : List Pc} (hok : RowOk r) : ((r.map ptx).map (·.length)).sum ≤ 7 * r.length := by
  induction r with
  | nil => exact Nat.le_refl _
  | cons p r ih =>
    have h1 := ih hok.tail
    have h2 := ptx_len hok.head
    simp only [List.map_cons, List.sum_cons, List.length_cons]
    omega
theorem rowTx_len {r : List Pc} (hok : RowOk r) (l8 : r.length ≤ 8) : (rowTx r).length ≤ 100 := by
  unfold rowTx
  rw [TL.join_eq]
  have h1 := join_len (Str.ofString ", ") (r.map ptx)
  have h2 := sum_len hok
  rw [List.length_map] at h1
  have h3 : (Str.ofString ", ").length = 2 := by decide +kernel
  rw [h3] at h1
  omega
theorem eqv_none_tup (xs : List PyData) : PyData.eqv (.tuple xs) .none = false := by simp [PyData.eqv]
structure OwR (P : Program) (w : World) (K : PySem.W.Frag) (mg : Str → Option Value) (base : Heap) (C p g : Addr) (fd : FuncData) : Prop where
  rd : ClX.CRead K C (.type "type")
  sm : SMet K C (.type "type") "read" p g
  ok : FnOk P w K mg base CX0 7 g fd ["text"] (spRead C)
  b : Binds K fd ["text"] []
def spPcs (C : Addr) : Sp := fun vs H Q _ => ∃ (x : Addr) (r : List Pc), vs = [.ref x] ∧ PatAt C H x r ∧ ∀ q ws, H q = some (.tup ws) → PiecesAt H ws r → Q (.ref q) H
structure OwPi (P : Program) (w : World) (K : PySem.W.Frag) (mg : Str → Option Value) (base : Heap) (C p g : Addr) (fd : FuncData) : Prop where
  pr : PropOf K C "pieces" p g
  ok : FnOk P w K mg base CX0 1 g fd ["self"] (spPcs C)
  b : Binds K fd ["self"] []
structure IsC (K : PySem.W.Frag) (C : Addr) : Prop where
  ca : PySem.W.findIn K (.ref C) "__class__" = some (some (.builtin "object.__class__"))
  cn : PySem.W.specialIn K (.builtin "object.__class__") "__get__" = some (some (.builtin "getset_descriptor.__get__"))
  ct : PySem.W.takesIn K (.builtin "object.__class__") = some true
  cm : PySem.W.mroIn K C (.type "object") = some true
  is_ : PySem.W.kitOne K (.ref C) (.ref C) = some true
def spChkP (C : Addr) : Sp := fun vs H Q _ => ∃ (x dx : Addr) (fs : List (Str × V)), vs = [.ref x] ∧ H x = some (.ins C dx fs) ∧ Q .non H
def spTx : Sp := fun vs H Q _ => ∃ (v : V) (r : List Pc), vs = [v] ∧ RowT H v r ∧ ∀ H', Same H H' → Q (.str (rowTx r)) H'
def spPat (C : Addr) : Sp := fun vs H Q _ => ∃ (v : V) (r : List Pc), vs = [v] ∧ RowT H v r ∧ ∀ H' z, Same H H' → H z = none → PatAt C H' z r → Q (.ref z) H'
section
variable {P : Program} {w : World} {K : PySem.W.Frag} {mg : Str → Option Value} {base : Heap} {tG t1 t2 t3 : Tok} {aO aW J C fP fJ : Addr} {fdJ : FuncData}
theorem dp_row {H : Hp} {vs : List V} {r : List Pc} (h : PiecesAt H vs r) {q : Addr} (hq : H q = some (.tup vs)) : Dp K H (.ref q) (.tuple (r.map fun p => .tuple [.str (wd p.1), .int p.2])) := by
  refine .tup (SqT.of hq) ?_
  clear hq
  induction r generalizing vs with
  | nil =>
    match vs, h.1 with
    | [], _ => exact .nil
  | cons p r ih =>
    match vs, h.1, h.2 with
    | v :: vs, hl, h2 =>
      obtain ⟨v', hv, t, rfl, ht⟩ := h2 0 p rfl
      cases hv
      exact .cons (.tup (SqT.of ht) (.cons (.str _) (.cons (.int _) .nil))) (ih ⟨by simpa using hl, fun i p hp => h2 (i + 1) p hp⟩)
theorem units65 {k : Nat} {A : Around} (r : Room k A) : A.units + 65 < cLine := by
  have := r.un
  omega
theorem wd_ok (r : Bool) : PyData.strOk (wd r) = true := by cases r <;> decide +kernel
theorem row_lay : ∀ r : List Pc, PyData.canLayAll0 (r.map fun p => .tuple [.str (wd p.1), .int p.2]) = true
  | [] => rfl
  | p :: r => by simp [PyData.canLayAll0, PyData.canLay0, row_lay r, wd_ok]
theorem row_depth : ∀ r : List Pc, PyData.depthAll (r.map fun p => .tuple [.str (wd p.1), .int p.2]) ≤ 1
  | [] => by simp [PyData.depthAll]
  | p :: r => by
    have h := row_depth r
    simp [PyData.depthAll, PyData.depth]
    omega
theorem sh_row (r : List Pc) : SeqAt.shaped (.tuple (r.map fun p => .tuple [.str (wd p.1), .int p.2])) = true := by
  have h1 := row_lay r
  have h2 := row_depth r
  unfold SeqAt.shaped
  simp [PyData.canLay0, PyData.depth, h1]
  omega
abbrev s_Pattern_read : Stmt := inClass (top 46) 10
theorem sc_Pattern_read : FnScope ["text", "parts", "row", "part"] ["text"] (defScope s_Pattern_read) := ⟨rfl, rfl, rfl, by decide +kernel, rfl, by decide +kernel, by decide +kernel⟩

theorem ok_read {f : Addr} {fd : FuncData} (F : Fun K "read" "Pattern.read" s_Pattern_read f fd) (T : Txt3 K mg tG t1 t2 t3 aO aW J C) (X_pat : PatD P w K mg base C J fP) (X_join : JoinD P w K mg base J fJ fdJ) (D_piece_with_text : Df P w K mg base 2 "piece_with_text" ["text"] spPwt) : FnOk P w K mg base CX0 7 f fd ["text"] (spRead C) := by
  refine F.ok sc_Pattern_read (fun vs H Q E h => ?_) (fun cdv A outer s H vs Q E hr h => ?_)
  · obtain ⟨r, rfl, _⟩ := h
    rfl
  · obtain ⟨r, rfl, hok, l1, l8, k⟩ := h
    refine ⟨_, (pss_cons (ps_if (pt_not (pt_val (pe_callB call_isi (by rfl) T.isinstance (by decide +kernel) (pa_cons (pv 0) (pa_cons (pe_bltn (v := .ty "str") (by rfl) T.str_ (by decide +kernel) rfl) pa_nil))))) (pss_one ps_never) pss_nil)
      (pss_cons (ps_set (i := 1) sc_Pattern_read.nd rfl (.inl rfl) (pe_split (pv 0) pe_str))
      (pss_cons (ps_if (pt_cmpR op_gt (pe_callB call_len_seq (by rfl) T.len (by decide +kernel) (pa_cons (pv 1) pa_nil)) (pe_glob (v := .int 8) rfl T.mgJo ⟨_, rfl⟩) (nomark _)) (pss_one ps_never) pss_nil)
      (pss_cons (ps_set (i := 2) sc_Pattern_read.nd rfl (.inl rfl) (pe_callTy call_tuple_of (by rfl) T.tuple_ (by decide +kernel) (pa_cons (pe_lc (own := [("part", 3)]) (g := gName 3) (tt := tYes) rfl sc_Pattern_read.nd (pi_list (pv 1)) (blkOk_by (N := ["text", "parts", "row", "part"]) (sc := defScope s_Pattern_read) (by decide +kernel)) (fun _ _ _ _ _ => pg_name (i := 3) sc_Pattern_read.nd rfl (Or.inl rfl)) (fun _ _ _ _ _ => pts_nil) (fun _ _ _ _ _ => (pe_df D_piece_with_text (hr.mono (by decide)) (by rfl) (pa_cons (pv 3) pa_nil)))) pa_nil)))
      (pss_cons (ps_if (pt_cmpR (op_inT (units65 hr)) pe_non (pv 2) (by rfl)) (pss_one ps_never) pss_nil)
      (pss_one (ps_ret (StX.pe_makeR X_pat.m X_pat.fn (hr.mono (by decide)) rfl T.mgC pass0 (pa_cons (pe_make X_join.m X_join.fn (hr.mono (by decide)) rfl T.mgJ X_join.bd .nil pass0 (pa_cons (pv 2) pa_nil)) pa_nil))))))))), ?_⟩
    refine ⟨_, rfl, _, _, _, _, true, rfl, .ty _, .base (.str _), kit_ty (by decide +kernel), true, rfl, iteF ?_⟩
    refine ⟨_, rfl, ⟨_, rfl⟩, _, _, rfl, rfl, by decide +kernel, Nat.le_trans (Nat.add_le_add_right (rowTx_len hok l8) 2) (small1000 (show 101 ≤ 999 + 1 by decide)), fun p np => ?_⟩
    rw [parts_split hok l1]
    have s1 := same_upd (o := .lst ((r.map ptx).map V.str)) np
    have hp : (upd H p (.lst ((r.map ptx).map V.str))) p = some (.lst ((r.map ptx).map V.str)) := upd_same
    have len : ((r.map ptx).map V.str).length = r.length := by rw [List.length_map, List.length_map]
    generalize upd H p (.lst ((r.map ptx).map V.str)) = H1 at *
    refine ⟨_, rfl, p, _, rfl, .inl (SqL.of hp), _, _, rfl, rfl, _, rfl, ite2 (fun e => ?_) (fun _ => ?_)⟩
    · have h1 := of_decide_eq_true e
      rw [len] at h1
      omega
    refine ⟨_, rfl, p, rfl, ⟨_, SqL.of hp⟩, fun D hD => ?_⟩
    refine lc_list (K := K) (a := p) (xs := (r.map ptx).map V.str) (fun i H' => But D H1 H' ∧ ∃ vs, H' D = some (.lst vs) ∧ PiecesAt H' vs (r.take i)) ⟨But.upd, [], upd_same, rfl, fun i e z => by simp at z⟩ (fun i H' _ h => SqL.of (h.1 _ _ (ne_of_none hp hD) hp)) ?_ ?_
    · rintro i y H' hi ⟨bD, vs, hDi, hF⟩
      refine ⟨rfl, ?_⟩
      unfold tYes
      refine iteT ?_
      obtain ⟨pc, rfl, hpc⟩ : ∃ pc, y = .str (ptx pc) ∧ r[i]? = some pc := by
        rw [List.getElem?_map, List.getElem?_map] at hi
        cases e : r[i]? with
        | none =>
          rw [e] at hi
          cases hi
        | some pc =>
          rw [e] at hi
          exact ⟨pc, (Option.some.inj hi).symm, rfl⟩
      have il : i < r.length := (List.getElem?_eq_some_iff.mp hpc).1
      have lv : vs.length = i := by
        rw [hF.1, List.length_take]
        omega
      have tk : r.take (i + 1) = r.take i ++ [pc] := by
        rw [List.take_succ, hpc]
        rfl
      refine ⟨_, rfl, pc, rfl, hok.at_ hpc, fun H5 t s5 nt ht => ?_⟩
      have hD5 := s5 _ _ hDi
      have bD2 : But D H5 (upd H5 D (.lst (vs ++ [.ref t]))) := But.upd
      refine ⟨vs, hD5, small1000 (by omega), ?_, vs ++ [.ref t], upd_same, ?_⟩
      · intro b o nb e
        rw [upd_ne nb]
        exact s5 _ _ (bD _ _ nb e)
      · rw [tk]
        refine ((hF.same s5).app ⟨rfl, fun j p hj => ?_⟩).but bD2 (fun xs z => by rw [hD5] at z; cases z)
        match j, hj with
        | 0, hj =>
          cases hj
          exact ⟨_, rfl, t, rfl, ht⟩
    · rintro H' ⟨bD, vs, hDn, hF⟩
      rw [len, List.take_length] at hF
      have sD : Same H1 H' := fun b o e => bD _ _ (ne_of_none e hD) e
      refine ⟨D, _, rfl, .inl ⟨SqL.of hDn, fun l hl => ?_⟩⟩
      have s6 := same_upd (o := .tup vs) hl
      have hF6 := hF.same s6
      have hl6 : (upd H' l (.tup vs)) l = some (.tup vs) := upd_same
      have sA := (s1.trans sD).trans s6
      generalize upd H' l (.tup vs) = H6 at *
      refine ⟨_, rfl, .none, _, .non, dp_row hF6 hl6, rfl, sh_row r, _, rfl, ite2 (fun e => ?_) (fun _ => ?_)⟩
      · exfalso
        rw [List.any_eq_true] at e
        obtain ⟨z, hz, ez⟩ := e
        obtain ⟨pc, _, rfl⟩ := List.mem_map.mp hz
        rw [eqv_none_tup] at ez
        cases ez
      exact ⟨_, rfl, make_pat hl6 hF6 hok l1 l8 fun H' z s2 nz hz => k H' z (sA.trans s2) (sA.free nz) hz⟩
abbrev s_Pattern_pieces : Stmt := inClass (top 46) 2
theorem sc_Pattern_pieces : FnScope ["self"] ["self"] (defScope s_Pattern_pieces) := ⟨rfl, rfl, rfl, by decide +kernel, rfl, by decide +kernel, by decide +kernel⟩

theorem ok_pcs {f : Addr} {fd : FuncData} (F : Fun K "pieces" "Pattern.pieces" s_Pattern_pieces f fd) (T : Txt3 K mg tG t1 t2 t3 aO aW J C) : FnOk P w K mg base CX0 1 f fd ["self"] (spPcs C) := by
  refine F.ok sc_Pattern_pieces (fun vs H Q E h => ?_) (fun cdv A outer s H vs Q E hr h => ?_)
  · obtain ⟨x, r, rfl, _⟩ := h
    rfl
  · obtain ⟨x, r, rfl, hP, k⟩ := h
    refine ⟨_, (pss_one (ps_ret (pe_fld (pv 0) rfl))), ?_⟩
    obtain ⟨dx, q, m, f', ws, f1, f2, f3, f4, hx, hq, hw, hm, _⟩ := hP
    exact ⟨_, rfl, x, C, dx, _, _, rfl, hx, T.cl, T.nRow, lkR _ _ _, k q ws hq hw⟩
abbrev s_check_pattern : Stmt := top 55
theorem sc_check_pattern : FnScope ["value"] ["value"] (defScope s_check_pattern) := ⟨rfl, rfl, rfl, by decide +kernel, rfl, by decide +kernel, by decide +kernel⟩

theorem ok_chkp {f : Addr} {fd : FuncData} (F : Fun K "check_pattern" "check_pattern" s_check_pattern f fd) (T : Txt3 K mg tG t1 t2 t3 aO aW J C) (I : IsC K C) : FnOk P w K mg base CX0 1 f fd ["value"] (spChkP C) := by
  refine F.ok sc_check_pattern (fun vs H Q E h => ?_) (fun cdv A outer s H vs Q E hr h => ?_)
  · obtain ⟨x, dx, fs, rfl, _⟩ := h
    rfl
  · obtain ⟨x, dx, fs, rfl, hx, k⟩ := h
    refine ⟨_, (pss_one (ps_if (pt_not (pt_val (pe_callB call_isi (by rfl) T.isinstance (by decide +kernel) (pa_cons (pv 0) (pa_cons (pe_glob (v := .ref C) rfl T.mgC rfl) pa_nil))))) (pss_one ps_never) pss_nil)), ?_⟩
    exact ⟨_, rfl, _, _, _, _, true, rfl, .own C, .base (.ins hx T.cl I.ca I.cn I.ct I.cm), I.is_, true, rfl, iteF k⟩
abbrev s_law_text : Stmt := top 116
theorem sc_law_text : FnScope ["_law_row", "_law_word", "_law_size"] ["_law_row"] (defScope s_law_text) := ⟨rfl, rfl, rfl, by decide +kernel, rfl, by decide +kernel, by decide +kernel⟩

theorem ok_text {f : Addr} {fd : FuncData} (F : Fun K "_law_text" "_law_text" s_law_text f fd) (T : Txt K mg) : FnOk P w K mg base CX0 1 f fd ["_law_row"] spTx := by
  refine F.ok sc_law_text (fun vs H Q E h => ?_) (fun cdv A outer s H vs Q E hr h => ?_)
  · obtain ⟨a, r, rfl, _⟩ := h
    rfl
  · obtain ⟨v, r, rfl, ⟨a, ws, rfl, ha, hw, hok, l1, l8⟩, k⟩ := h
    refine ⟨_, (pss_one (ps_ret (pe_join pe_str (pe_lc (own := [("_law_word", 1), ("_law_size", 2)]) (g := gTup K 2 (gCons (gName 1) (gCons (gName 2) gNil))) (tt := tYes) rfl sc_law_text.nd (pi_tup (pv 0)) (blkOk_by (N := ["_law_row", "_law_word", "_law_size"]) (sc := defScope s_law_text) (by decide +kernel)) (fun _ _ _ _ _ => pg_tup rfl (pgs_cons (pg_name (i := 1) sc_law_text.nd rfl (Or.inl rfl)) (pgs_cons (pg_name (i := 2) sc_law_text.nd rfl (Or.inl rfl)) pgs_nil))) (fun _ _ _ _ _ => pts_nil) (fun _ _ _ _ _ => (pe_op op_add_str (pe_op op_add_str (pv 1) pe_str) (pe_callTy call_str_int (by rfl) T.str_ (by decide +kernel) (pa_cons (pv 2) pa_nil)))))))), ?_⟩
    refine ⟨⟨_, rfl⟩, _, rfl, a, rfl, ⟨_, SqT.of ha⟩, fun D hD => ?_⟩
    refine lc_tup (K := K) (a := a) (xs := ws) (fun i H' => But D H H' ∧ H' D = some (.lst (((r.take i).map ptx).map V.str))) ⟨But.upd, upd_same⟩ (fun i H' _ h => SqT.of (h.1 _ _ (ne_of_none ha hD) ha)) ?_ ?_
    · rintro i y H1 hi ⟨bD, hDi⟩
      obtain ⟨pc, hpc, t, rfl, ht⟩ := hw.at_ hi
      have ht1 := bD _ _ (ne_of_none ht hD) ht
      have ok := hok.at_ hpc
      have oh : Sm 200 pc.2 := (ohm_sm ok).mono (by decide)
      have ww : OkT 4 (wd pc.1) := by
        unfold wd
        split
        · exact OkT.of "rail"
        · exact OkT.of "rung"
      have lens : ∀ {m n : Nat} {x y : Str}, OkT m x → OkT n y → m + n ≤ 100000 → x.length + y.length ≤ sizeLine := fun {m n x y} h1 h2 h3 => by
        have := h1.len
        have := h2.len
        rw [sizeLine_eq]
        omega
      refine ⟨t, _, rfl, SqT.of ht1, rfl, _, _, rfl, _, _, rfl, rfl, rfl, ?_⟩
      unfold tYes
      refine iteT ?_
      refine ⟨_, rfl, _, _, rfl, rfl, lens ww (OkT.of " ") (by decide), _, rfl, _, rfl, Nat.lt_trans (log_sm (by decide) oh) (by decide), _, _, rfl, rfl, lens (ww.app (OkT.of " ")) (ts_ok oh) (by decide), _, hDi, ?_, ?_, ?_⟩
      · rw [List.length_map, List.length_map, List.length_take]
        exact small1000 (by omega)
      · intro q o nq e
        rw [upd_ne nq]
        exact bD _ _ nq e
      · rw [upd_same, List.take_succ, hpc]
        simp only [Option.toList, List.map_append, List.map_cons, List.map_nil]
        rfl
    · rintro H1 ⟨bD, hDn⟩
      rw [hw.1, List.take_length] at hDn
      refine ⟨_, D, r.map ptx, rfl, rfl, .inl (SqL.of hDn), ?_, ?_⟩
      · have h2 := sum_len hok
        have h3 : (Str.ofString ", ").length = 2 := by decide +kernel
        rw [List.length_map]
        show _ + r.length * (Str.ofString ", ").length ≤ 16777216
        rw [h3]
        omega
      · exact k _ fun q o e => bD _ _ (ne_of_none e hD) e
abbrev s_law_pat : Stmt := top 117
theorem sc_law_pat : FnScope ["_law_row"] ["_law_row"] (defScope s_law_pat) := ⟨rfl, rfl, rfl, by decide +kernel, rfl, by decide +kernel, by decide +kernel⟩

theorem ok_pat {f pr gr : Addr} {fd fr : FuncData} (F : Fun K "_law_pat" "_law_pat" s_law_pat f fd) (T : Txt3 K mg tG t1 t2 t3 aO aW J C) (OR : OwR P w K mg base C pr gr fr) (D_law_text : Df P w K mg base 1 "_law_text" ["_law_row"] spTx) : FnOk P w K mg base CX0 8 f fd ["_law_row"] (spPat C) := by
  refine F.ok sc_law_pat (fun vs H Q E h => ?_) (fun cdv A outer s H vs Q E hr h => ?_)
  · obtain ⟨a, r, rfl, _⟩ := h
    rfl
  · obtain ⟨v, r, rfl, hR, k⟩ := h
    refine ⟨_, (pss_one (ps_ret (pe_smeth (pe_glob (v := .ref C) rfl T.mgC rfl) OR.rd OR.sm OR.ok OR.b (hr.mono (by decide)) (pa_cons (pe_df D_law_text (hr.mono (by decide)) (by rfl) (pa_cons (pv 0) pa_nil)) pa_nil)))), ?_⟩
    obtain ⟨_, _, _, _, _, hok, l1, l8⟩ := id hR
    exact ⟨rfl, _, rfl, v, r, rfl, hR, fun H1 s1 => ⟨r, rfl, hok, l1, l8, fun H2 z s2 nz hz => k _ z (s1.trans s2) (s1.free nz) hz⟩⟩
end
end RL

set_option maxHeartbeats 2000000
namespace RL
open PySem L2 PySem.Spec PyProof.Rows
def bothOf : PyData → List PyData
  | .tuple ds => ds
  | d => [d, .int 1]
theorem bothOf_not {d : PyData} (h : isTupD d = false) : bothOf d = [d, .int 1] := by
  cases d <;> first | rfl | exact absurd h (by simp [isTupD])
def resQ : PyData → PyData → Bool
  | .int a, .int b => (decide (0 ≤ a) && decide (a ≤ 1000000000000) && (decide (1 ≤ b) && decide (b ≤ 1000000000000))) || decide (a = 1 ∧ b = 0)
  | _, _ => false
def numQ : PyData → PyData → Bool
  | .int a, .int b => (decide (0 ≤ a) && decide (0 < b)) || decide (a = 1 ∧ b = 0)
  | _, _ => false
def resP2 : List PyData → Bool
  | [a, b] => resQ a b
  | _ => false
def numP2 : List PyData → Bool
  | [a, b] => numQ a b
  | _ => false
theorem res_both (d : PyData) : resP2 (bothOf d) = resG d := by
  cases d with
  | tuple ds =>
    match ds with
    | [] => rfl
    | [_] => rfl
    | [a, b] =>
      show resQ a b = resOf a b
      cases a <;> first | rfl | (cases b <;> first | rfl | exact Bool.or_comm _ _)
    | _ :: _ :: _ :: _ => rfl
  | int i =>
    show ((decide (0 ≤ i) && decide (i ≤ 1000000000000) && (decide ((1 : Int) ≤ 1) && decide ((1 : Int) ≤ 1000000000000))) || decide (i = 1 ∧ (1 : Int) = 0)) = (decide (0 ≤ i) && decide (i ≤ 1000000000000))
    simp
  | _ => rfl
theorem num_both (d : PyData) : numP2 (bothOf d) = numG d := by
  cases d with
  | tuple ds =>
    match ds with
    | [] => rfl
    | [_] => rfl
    | [a, b] =>
      show numQ a b = numOf a b
      cases a <;> first | rfl | (cases b <;> first | rfl | exact Bool.or_comm _ _)
    | _ :: _ :: _ :: _ => rfl
  | int i =>
    show ((decide (0 ≤ i) && decide ((0 : Int) < 1)) || decide (i = 1 ∧ (1 : Int) = 0)) = decide (0 ≤ i)
    simp
  | _ => rfl
def someOdd (ds : List PyData) : Bool := ds.any fun d => !isIntD d
theorem odd_res {ds : List PyData} (h : ds.length ≠ 2 ∨ someOdd ds = true) : resP2 ds = false ∧ numP2 ds = false := by
  match ds, h with
  | [], _ => exact ⟨rfl, rfl⟩
  | [_], _ => exact ⟨rfl, rfl⟩
  | [a, b], h =>
    rcases h with h | h
    · exact absurd rfl h
    · have h : (!isIntD a || (!isIntD b || false)) = true := h
      cases a <;> first | exact ⟨rfl, rfl⟩ | (cases b <;> first | exact ⟨rfl, rfl⟩ | exact absurd h (by simp [isIntD]))
  | _ :: _ :: _ :: _, _ => exact ⟨rfl, rfl⟩
theorem odd_no {ds : List PyData} (h : ds.length = 2) (o : someOdd ds = false) : ∃ a b : Int, ds = [.int a, .int b] := by
  match ds, h, o with
  | [a, b], _, o =>
    have o : (!isIntD a || (!isIntD b || false)) = false := o
    simp only [Bool.or_false, Bool.or_eq_false_iff, Bool.not_eq_false'] at o
    obtain ⟨i, rfl⟩ := int_of o.1
    obtain ⟨j, rfl⟩ := int_of o.2
    exact ⟨i, j, rfl⟩
section
variable {P : Program} {w : World} {K : PySem.W.Frag} {mg : Str → Option Value} {base : Heap} {tG t1 t3 tC tK : Tok} {aO aW aCh : Addr}
abbrev s_law_is_load : Stmt := top 119
theorem sc_law_is_load : FnScope ["_law_thing", "_law_both", "_law_x"] ["_law_thing"] (defScope s_law_is_load) := ⟨rfl, rfl, rfl, by decide +kernel, rfl, by decide +kernel, by decide +kernel⟩

theorem ok_isload {f : Addr} {fd : FuncData} (F : Fun K "_law_is_load" "_law_is_load" s_law_is_load f fd) (T : TxtA K mg w tG t1 t3 tC tK aO aW aCh) : FnOk P w K mg base CX0 1 f fd ["_law_thing"] spIsLoad := by
  refine F.ok sc_law_is_load (fun vs H Q E h => ?_) (fun cdv A outer s H vs Q E hr h => ?_)
  · obtain ⟨v, d, rfl, _⟩ := h
    rfl
  · obtain ⟨v, d, rfl, hd, nd, k⟩ := h
    refine ⟨_, (C8.pss_cut (ps_set (i := 1) sc_law_is_load.nd rfl (.inl rfl) (pe_ifExp (pt_val (pe_callB call_isi (by rfl) T.isinstance (by decide +kernel) (pa_cons (pv 0) (pa_cons (pe_bltn (v := .ty "tuple") (by rfl) T.tuple_ (by decide +kernel) rfl) pa_nil)))) (pv 0) (pe_tup (pa_cons (pv 0) (pa_cons pe_int pa_nil)))))
      (pss_cons (ps_if (PW.pt (pw_or (pt_cmpR op_ne (pe_callB call_len_seq (by rfl) T.len (by decide +kernel) (pa_cons (pv 1) pa_nil)) pe_int (nomark _)) (pw_or1 (pt_val (pe_callB (cr_any rfl) (by rfl) T.any (by decide +kernel) (pa_cons (pe_lc (own := [("_law_x", 2)]) (g := gName 2) (tt := tYes) rfl sc_law_is_load.nd (pi_tup (pv 1)) (blkOk_by (N := ["_law_thing", "_law_both", "_law_x"]) (sc := defScope s_law_is_load) (by decide +kernel)) (fun _ _ _ _ _ => pg_name (i := 2) sc_law_is_load.nd rfl (Or.inl rfl)) (fun _ _ _ _ _ => pts_nil) (fun _ _ _ _ _ => (pe_or (pe_not (pe_callB (call_isiK (K := K)) (by rfl) T.isinstance (by decide +kernel) (pa_cons (pv 2) (pa_cons (pe_bltn (v := .ty "int") (by rfl) T.int_ (by decide +kernel) rfl) pa_nil)))) (pe_one (pe_callB (call_isiK (K := K)) (by rfl) T.isinstance (by decide +kernel) (pa_cons (pv 2) (pa_cons (pe_bltn (v := .ty "bool") (by rfl) T.bool_ (by decide +kernel) rfl) pa_nil))))))) pa_nil)))))) (pss_one (ps_ret pe_bl)) pss_nil)
      (pss_one (ps_ret (pe_or (pe_and (pe_chain op_le op_le pe_int (pe_ix ix_tup (pv 1) pe_int (fun _ _ => rfl)) (pe_op op_pow pe_int pe_int)) (pe_one (pe_chain op_le op_le pe_int (pe_ix ix_tup (pv 1) pe_int (fun _ _ => rfl)) (pe_op op_pow pe_int pe_int)))) (pe_one (pe_cmpR (op_eqD hr.units) (pv 1) (pe_tup (pa_cons pe_int (pa_cons pe_int pa_nil))) (nomark _)))))))), ?_⟩
    refine ⟨fun σ' H' => ∃ t ys, σ' = [some v, some (.ref t), none] ∧ Same H H' ∧ H' t = some (.tup ys) ∧ Drs H' ys (bothOf d), ?_, ?_⟩
    · refine ⟨_, rfl, _, _, _, _, isTupD d, rfl, .ty _, ty_dr hd, kit_tup d, _, rfl, ?_⟩
      cases h1 : isTupD d with
      | true =>
        obtain ⟨ds, rfl⟩ : ∃ ds, d = .tuple ds := by cases d <;> first | exact ⟨_, rfl⟩ | exact absurd h1 (by simp [isTupD])
        obtain ⟨t, ys, rfl, ht, hy⟩ := hd.tuple
        exact iteT ⟨_, rfl, t, ys, rfl, Same.refl _, ht, hy⟩
      | false =>
        rw [bothOf_not h1]
        refine iteF ⟨_, rfl, (by show 2 ≤ sizeLine; decide), fun p np => ?_⟩
        have sp := same_upd (o := .tup [v, .int 1]) np
        exact ⟨p, _, rfl, sp, upd_same, .cons (hd.mono sp) (.cons (.int _) .nil)⟩
    rintro σ1 H1 ⟨t, ys, rfl, s1, ht, hy⟩
    have ndd : ∀ x ∈ bothOf d, Nd x := fun x hx => by
      cases h1 : isTupD d with
      | true =>
        obtain ⟨ds, rfl⟩ : ∃ ds, d = .tuple ds := by cases d <;> first | exact ⟨_, rfl⟩ | exact absurd h1 (by simp [isTupD])
        obtain ⟨i, hi⟩ := List.getElem?_of_mem hx
        exact .inl (nd.at_ hi)
      | false =>
        rw [bothOf_not h1] at hx
        simp only [List.mem_cons, List.not_mem_nil, or_false] at hx
        rcases hx with rfl | rfl
        · exact nd
        · exact .inl rfl
    rw [← res_both] at k
    generalize bothOf d = ds at *
    refine ⟨_, rfl, t, _, rfl, .inr (SqT.of ht), rfl, _, rfl, ite2 (fun e1 => ?_) (fun e1 => ?_)⟩
    · have nl : ds.length ≠ 2 := fun z => by
        rw [hy.1, z] at e1
        exact absurd e1 (by decide)
      rw [(odd_res (.inl nl)).1] at k
      exact k _ s1
    have l2 : ds.length = 2 := by
      have e2 : decide (V.int (ys.length : Int) = V.int 2) = true := by
        cases hh : decide (V.int (ys.length : Int) = V.int 2) with
        | true => rfl
        | false =>
          rw [hh] at e1
          exact absurd rfl e1
      have := V.int.inj (of_decide_eq_true e2)
      have := hy.1
      omega
    refine ⟨_, rfl, t, rfl, ⟨_, SqT.of ht⟩, fun D hD => ?_⟩
    refine lc_tup (K := K) (a := t) (xs := ys) (fun i H' => Same H1 H' ∧ H' D = some (.lst (((ds.take i).map fun d => !isIntD d).map V.bl))) ⟨same_upd hD, upd_same⟩ (fun i H' _ h => SqT.of (h.1 _ _ ht)) ?_ ?_
    · rintro i y H' hyi ⟨sD, hDi⟩
      obtain ⟨x, hx, hdx⟩ := hy.atv hyi
      have il : i < ds.length := (List.getElem?_eq_some_iff.mp hx).1
      have hdx' := hdx.mono sD
      refine ⟨rfl, ?_⟩
      unfold tYes
      refine iteT ?_
      have fin : ∃ acc, H' D = some (.lst acc) ∧ acc.length < sizeLine ∧ Same H1 (upd H' D (.lst (acc ++ [.bl (!isIntD x)]))) ∧ (upd H' D (.lst (acc ++ [.bl (!isIntD x)]))) D = some (.lst (((ds.take (i + 1)).map fun d => !isIntD d).map V.bl)) := by
        refine ⟨_, hDi, ?_, ?_, ?_⟩
        · rw [List.length_map, List.length_map, List.length_take]
          exact small1000 (by omega)
        · intro q o e
          rw [upd_ne (ne_of_none e hD)]
          exact sD _ _ e
        · rw [upd_same, take_snoc hx, List.map_append, List.map_append]
          rfl
      refine ⟨_, rfl, _, _, _, _, intOrBool x, rfl, .ty _, ty_dr hdx', kit_int x, _, rfl, _, rfl, ?_⟩
      cases h1 : intOrBool x with
      | false =>
        have e : isIntD x = false := by cases x <;> first | rfl | (cases h1; done)
        rw [e] at fin
        exact iteT fin
      | true =>
        refine iteF ⟨_, rfl, _, _, _, _, isBoolD x, rfl, .ty _, ty_dr hdx', kit_bool x, ?_⟩
        have e : isBoolD x = !isIntD x := by cases x <;> first | rfl | (cases h1; done)
        rw [e]
        exact fin
    · rintro H' ⟨sD, hDn⟩
      refine ⟨D, _, rfl, SqL.of hDn, _, rfl, ?_⟩
      have el : ((ds.take ys.length).map fun d => !isIntD d).any id = someOdd ds := by
        rw [hy.1, List.take_length, List.any_map]
        rfl
      rw [el]
      have s2 := s1.trans sD
      cases ho : someOdd ds with
      | true =>
        rw [(odd_res (.inr ho)).1] at k
        exact iteT (k _ s2)
      | false =>
        obtain ⟨a, b, rfl⟩ := odd_no l2 ho
        have ht' := sD _ _ ht
        obtain ⟨rfl⟩ : ys = [.int a, .int b] := by
          match ys, hy with
          | [x, y], hy =>
            have h1 := hy.inv.1.toInt
            have h2 := hy.inv.2.inv.1.toInt
            rw [h1, h2]
          | [], hy => exact absurd hy.1 (by simp)
          | [_], hy => exact absurd hy.1 (by simp)
          | _ :: _ :: _ :: _, hy => exact absurd hy.1 (by simp)
        have hdl : Drs H' [.int a, .int b] [.int a, .int b] := .cons (.int _) (.cons (.int _) .nil)
        have last : ∀ c : Bool, (∀ H'', Same H' H'' → Q (.bl (c || decide (a = 1 ∧ b = 0))) H'') → c = false → ∀ p, H' p = none → Q (.bl (PyData.eqv (.tuple [.int a, .int b]) (.tuple [.int 1, .int 0]))) (upd H' p (.tup [.int 1, .int 0])) := fun c q e p np => by
          subst e
          rw [eqv_open]
          exact q _ (same_upd np)
        refine iteF ?_
        have k : ∀ H'', Same H' H'' → Q (.bl ((decide (0 ≤ a) && decide (a ≤ 1000000000000) && (decide (1 ≤ b) && decide (b ≤ 1000000000000))) || decide (a = 1 ∧ b = 0))) H'' := fun H'' s => k H'' (s2.trans s)
        refine ⟨_, rfl, t, _, _, _, rfl, rfl, SqT.of ht', atI_nat (j := 0) rfl, _, _, rfl, rfl, _, rfl, ite2 (fun e0 => ?_) (fun e0 => ?_)⟩
        · refine ⟨_, _, rfl, rfl, ⟨by decide, by decide, by decide⟩, _, _, rfl, rfl, _, rfl, ite2 (fun e1 => ?_) (fun e1 => ?_)⟩
          · refine ⟨_, rfl, t, _, _, _, rfl, rfl, SqT.of ht', atI_nat (j := 1) rfl, _, _, rfl, rfl, _, rfl, ite2 (fun e2 => ?_) (fun e2 => ?_)⟩
            · refine ⟨_, _, rfl, rfl, ⟨by decide, by decide, by decide⟩, _, _, rfl, rfl, ?_⟩
              cases e3 : decide (b ≤ 1000000000000) with
              | true =>
                refine ⟨true, congrArg V.bl e3, iteT ?_⟩
                have k := k _ (Same.refl _)
                rw [show (decide (0 ≤ a) && decide (a ≤ 1000000000000) && (decide (1 ≤ b) && decide (b ≤ 1000000000000))) = true by rw [show decide (0 ≤ a) = true from e0, show decide (a ≤ 1000000000000) = true from e1, show decide (1 ≤ b) = true from e2, e3]; rfl, Bool.true_or] at k
                exact k
              | false =>
                refine ⟨false, congrArg V.bl e3, iteF ?_⟩
                refine ⟨_, rfl, (by show 2 ≤ sizeLine; decide), fun p np => ?_⟩
                have sp := same_upd (o := .tup [.int 1, .int 0]) np
                refine ⟨.tuple [.int a, .int b], .tuple [.int 1, .int 0], .tup (SqT.of (sp _ _ ht')) (.cons (.int _) (.cons (.int _) .nil)), .tup (SqT.of upd_same) (.cons (.int _) (.cons (.int _) .nil)), rfl, rfl, ?_⟩
                rw [eqv_open]
                have k := k _ sp
                rw [show (decide (0 ≤ a) && decide (a ≤ 1000000000000) && (decide (1 ≤ b) && decide (b ≤ 1000000000000))) = false by rw [e3, Bool.and_false, Bool.and_false], Bool.false_or] at k
                exact k
            · refine ⟨_, rfl, iteF ⟨_, rfl, (by show 2 ≤ sizeLine; decide), fun p np => ?_⟩⟩
              have sp := same_upd (o := .tup [.int 1, .int 0]) np
              refine ⟨.tuple [.int a, .int b], .tuple [.int 1, .int 0], .tup (SqT.of (sp _ _ ht')) (.cons (.int _) (.cons (.int _) .nil)), .tup (SqT.of upd_same) (.cons (.int _) (.cons (.int _) .nil)), rfl, rfl, ?_⟩
              rw [eqv_open]
              have k := k _ sp
              rw [show (decide (0 ≤ a) && decide (a ≤ 1000000000000) && (decide (1 ≤ b) && decide (b ≤ 1000000000000))) = false by rw [show decide (1 ≤ b) = false from Bool.eq_false_iff.mpr e2, Bool.false_and, Bool.and_false], Bool.false_or] at k
              exact k
          · refine ⟨_, rfl, iteF ⟨_, rfl, (by show 2 ≤ sizeLine; decide), fun p np => ?_⟩⟩
            have sp := same_upd (o := .tup [.int 1, .int 0]) np
            refine ⟨.tuple [.int a, .int b], .tuple [.int 1, .int 0], .tup (SqT.of (sp _ _ ht')) (.cons (.int _) (.cons (.int _) .nil)), .tup (SqT.of upd_same) (.cons (.int _) (.cons (.int _) .nil)), rfl, rfl, ?_⟩
            rw [eqv_open]
            have k := k _ sp
            rw [show (decide (0 ≤ a) && decide (a ≤ 1000000000000) && (decide (1 ≤ b) && decide (b ≤ 1000000000000))) = false by rw [show decide (a ≤ 1000000000000) = false from Bool.eq_false_iff.mpr e1, Bool.and_false, Bool.false_and], Bool.false_or] at k
            exact k
        · refine ⟨_, rfl, iteF ⟨_, rfl, iteF ⟨_, rfl, (by show 2 ≤ sizeLine; decide), fun p np => ?_⟩⟩⟩
          have sp := same_upd (o := .tup [.int 1, .int 0]) np
          refine ⟨.tuple [.int a, .int b], .tuple [.int 1, .int 0], .tup (SqT.of (sp _ _ ht')) (.cons (.int _) (.cons (.int _) .nil)), .tup (SqT.of upd_same) (.cons (.int _) (.cons (.int _) .nil)), rfl, rfl, ?_⟩
          rw [eqv_open]
          have k := k _ sp
          rw [show (decide (0 ≤ a) && decide (a ≤ 1000000000000) && (decide (1 ≤ b) && decide (b ≤ 1000000000000))) = false by rw [show decide (0 ≤ a) = false from Bool.eq_false_iff.mpr e0, Bool.false_and, Bool.false_and], Bool.false_or] at k
          exact k
abbrev s_law_is_number : Stmt := top 120
theorem sc_law_is_number : FnScope ["_law_thing", "_law_both", "_law_x"] ["_law_thing"] (defScope s_law_is_number) := ⟨rfl, rfl, rfl, by decide +kernel, rfl, by decide +kernel, by decide +kernel⟩

theorem ok_isnum {f : Addr} {fd : FuncData} (F : Fun K "_law_is_number" "_law_is_number" s_law_is_number f fd) (T : TxtA K mg w tG t1 t3 tC tK aO aW aCh) : FnOk P w K mg base CX0 1 f fd ["_law_thing"] spIsNum := by
  refine F.ok sc_law_is_number (fun vs H Q E h => ?_) (fun cdv A outer s H vs Q E hr h => ?_)
  · obtain ⟨v, d, rfl, _⟩ := h
    rfl
  · obtain ⟨v, d, rfl, hd, nd, k⟩ := h
    refine ⟨_, (C8.pss_cut (ps_set (i := 1) sc_law_is_number.nd rfl (.inl rfl) (pe_ifExp (pt_val (pe_callB call_isi (by rfl) T.isinstance (by decide +kernel) (pa_cons (pv 0) (pa_cons (pe_bltn (v := .ty "tuple") (by rfl) T.tuple_ (by decide +kernel) rfl) pa_nil)))) (pv 0) (pe_tup (pa_cons (pv 0) (pa_cons pe_int pa_nil)))))
      (pss_cons (ps_if (PW.pt (pw_or (pt_cmpR op_ne (pe_callB call_len_seq (by rfl) T.len (by decide +kernel) (pa_cons (pv 1) pa_nil)) pe_int (nomark _)) (pw_or1 (pt_val (pe_callB (cr_any rfl) (by rfl) T.any (by decide +kernel) (pa_cons (pe_lc (own := [("_law_x", 2)]) (g := gName 2) (tt := tYes) rfl sc_law_is_number.nd (pi_tup (pv 1)) (blkOk_by (N := ["_law_thing", "_law_both", "_law_x"]) (sc := defScope s_law_is_number) (by decide +kernel)) (fun _ _ _ _ _ => pg_name (i := 2) sc_law_is_number.nd rfl (Or.inl rfl)) (fun _ _ _ _ _ => pts_nil) (fun _ _ _ _ _ => (pe_or (pe_not (pe_callB (call_isiK (K := K)) (by rfl) T.isinstance (by decide +kernel) (pa_cons (pv 2) (pa_cons (pe_bltn (v := .ty "int") (by rfl) T.int_ (by decide +kernel) rfl) pa_nil)))) (pe_one (pe_callB (call_isiK (K := K)) (by rfl) T.isinstance (by decide +kernel) (pa_cons (pv 2) (pa_cons (pe_bltn (v := .ty "bool") (by rfl) T.bool_ (by decide +kernel) rfl) pa_nil))))))) pa_nil)))))) (pss_one (ps_ret pe_bl)) pss_nil)
      (pss_one (ps_ret (pe_or (pe_and (pe_cmpR op_ge (pe_ix ix_tup (pv 1) pe_int (fun _ _ => rfl)) pe_int (nomark _)) (pe_one (pe_cmpR op_gt (pe_ix ix_tup (pv 1) pe_int (fun _ _ => rfl)) pe_int (nomark _)))) (pe_one (pe_cmpR (op_eqD hr.units) (pv 1) (pe_tup (pa_cons pe_int (pa_cons pe_int pa_nil))) (nomark _)))))))), ?_⟩
    refine ⟨fun σ' H' => ∃ t ys, σ' = [some v, some (.ref t), none] ∧ Same H H' ∧ H' t = some (.tup ys) ∧ Drs H' ys (bothOf d), ?_, ?_⟩
    · refine ⟨_, rfl, _, _, _, _, isTupD d, rfl, .ty _, ty_dr hd, kit_tup d, _, rfl, ?_⟩
      cases h1 : isTupD d with
      | true =>
        obtain ⟨ds, rfl⟩ : ∃ ds, d = .tuple ds := by cases d <;> first | exact ⟨_, rfl⟩ | exact absurd h1 (by simp [isTupD])
        obtain ⟨t, ys, rfl, ht, hy⟩ := hd.tuple
        exact iteT ⟨_, rfl, t, ys, rfl, Same.refl _, ht, hy⟩
      | false =>
        rw [bothOf_not h1]
        refine iteF ⟨_, rfl, (by show 2 ≤ sizeLine; decide), fun p np => ?_⟩
        have sp := same_upd (o := .tup [v, .int 1]) np
        exact ⟨p, _, rfl, sp, upd_same, .cons (hd.mono sp) (.cons (.int _) .nil)⟩
    rintro σ1 H1 ⟨t, ys, rfl, s1, ht, hy⟩
    have ndd : ∀ x ∈ bothOf d, Nd x := fun x hx => by
      cases h1 : isTupD d with
      | true =>
        obtain ⟨ds, rfl⟩ : ∃ ds, d = .tuple ds := by cases d <;> first | exact ⟨_, rfl⟩ | exact absurd h1 (by simp [isTupD])
        obtain ⟨i, hi⟩ := List.getElem?_of_mem hx
        exact .inl (nd.at_ hi)
      | false =>
        rw [bothOf_not h1] at hx
        simp only [List.mem_cons, List.not_mem_nil, or_false] at hx
        rcases hx with rfl | rfl
        · exact nd
        · exact .inl rfl
    rw [← num_both] at k
    generalize bothOf d = ds at *
    refine ⟨_, rfl, t, _, rfl, .inr (SqT.of ht), rfl, _, rfl, ite2 (fun e1 => ?_) (fun e1 => ?_)⟩
    · have nl : ds.length ≠ 2 := fun z => by
        rw [hy.1, z] at e1
        exact absurd e1 (by decide)
      rw [(odd_res (.inl nl)).2] at k
      exact k _ s1
    have l2 : ds.length = 2 := by
      have e2 : decide (V.int (ys.length : Int) = V.int 2) = true := by
        cases hh : decide (V.int (ys.length : Int) = V.int 2) with
        | true => rfl
        | false =>
          rw [hh] at e1
          exact absurd rfl e1
      have := V.int.inj (of_decide_eq_true e2)
      have := hy.1
      omega
    refine ⟨_, rfl, t, rfl, ⟨_, SqT.of ht⟩, fun D hD => ?_⟩
    refine lc_tup (K := K) (a := t) (xs := ys) (fun i H' => Same H1 H' ∧ H' D = some (.lst (((ds.take i).map fun d => !isIntD d).map V.bl))) ⟨same_upd hD, upd_same⟩ (fun i H' _ h => SqT.of (h.1 _ _ ht)) ?_ ?_
    · rintro i y H' hyi ⟨sD, hDi⟩
      obtain ⟨x, hx, hdx⟩ := hy.atv hyi
      have il : i < ds.length := (List.getElem?_eq_some_iff.mp hx).1
      have hdx' := hdx.mono sD
      refine ⟨rfl, ?_⟩
      unfold tYes
      refine iteT ?_
      have fin : ∃ acc, H' D = some (.lst acc) ∧ acc.length < sizeLine ∧ Same H1 (upd H' D (.lst (acc ++ [.bl (!isIntD x)]))) ∧ (upd H' D (.lst (acc ++ [.bl (!isIntD x)]))) D = some (.lst (((ds.take (i + 1)).map fun d => !isIntD d).map V.bl)) := by
        refine ⟨_, hDi, ?_, ?_, ?_⟩
        · rw [List.length_map, List.length_map, List.length_take]
          exact small1000 (by omega)
        · intro q o e
          rw [upd_ne (ne_of_none e hD)]
          exact sD _ _ e
        · rw [upd_same, take_snoc hx, List.map_append, List.map_append]
          rfl
      refine ⟨_, rfl, _, _, _, _, intOrBool x, rfl, .ty _, ty_dr hdx', kit_int x, _, rfl, _, rfl, ?_⟩
      cases h1 : intOrBool x with
      | false =>
        have e : isIntD x = false := by cases x <;> first | rfl | (cases h1; done)
        rw [e] at fin
        exact iteT fin
      | true =>
        refine iteF ⟨_, rfl, _, _, _, _, isBoolD x, rfl, .ty _, ty_dr hdx', kit_bool x, ?_⟩
        have e : isBoolD x = !isIntD x := by cases x <;> first | rfl | (cases h1; done)
        rw [e]
        exact fin
    · rintro H' ⟨sD, hDn⟩
      refine ⟨D, _, rfl, SqL.of hDn, _, rfl, ?_⟩
      have el : ((ds.take ys.length).map fun d => !isIntD d).any id = someOdd ds := by
        rw [hy.1, List.take_length, List.any_map]
        rfl
      rw [el]
      have s2 := s1.trans sD
      cases ho : someOdd ds with
      | true =>
        rw [(odd_res (.inr ho)).2] at k
        exact iteT (k _ s2)
      | false =>
        obtain ⟨a, b, rfl⟩ := odd_no l2 ho
        have ht' := sD _ _ ht
        obtain ⟨rfl⟩ : ys = [.int a, .int b] := by
          match ys, hy with
          | [x, y], hy =>
            have h1 := hy.inv.1.toInt
            have h2 := hy.inv.2.inv.1.toInt
            rw [h1, h2]
          | [], hy => exact absurd hy.1 (by simp)
          | [_], hy => exact absurd hy.1 (by simp)
          | _ :: _ :: _ :: _, hy => exact absurd hy.1 (by simp)
        have hdl : Drs H' [.int a, .int b] [.int a, .int b] := .cons (.int _) (.cons (.int _) .nil)
        have last : ∀ c : Bool, (∀ H'', Same H' H'' → Q (.bl (c || decide (a = 1 ∧ b = 0))) H'') → c = false → ∀ p, H' p = none → Q (.bl (PyData.eqv (.tuple [.int a, .int b]) (.tuple [.int 1, .int 0]))) (upd H' p (.tup [.int 1, .int 0])) := fun c q e p np => by
          subst e
          rw [eqv_open]
          exact q _ (same_upd np)
        refine iteF ?_
        have k : ∀ H'', Same H' H'' → Q (.bl ((decide (0 ≤ a) && decide (0 < b)) || decide (a = 1 ∧ b = 0))) H'' := fun H'' s => k H'' (s2.trans s)
        refine ⟨_, rfl, t, _, _, _, rfl, rfl, SqT.of ht', atI_nat (j := 0) rfl, _, _, rfl, rfl, _, rfl, ite2 (fun e0 => ?_) (fun e0 => ?_)⟩
        · refine ⟨_, rfl, t, _, _, _, rfl, rfl, SqT.of ht', atI_nat (j := 1) rfl, _, _, rfl, rfl, ?_⟩
          cases e1 : decide (0 < b) with
          | true =>
            refine ⟨true, congrArg V.bl e1, iteT ?_⟩
            have k := k _ (Same.refl _)
            rw [show (decide (0 ≤ a) && decide (0 < b)) = true by rw [show decide (0 ≤ a) = true from e0, e1]; rfl, Bool.true_or] at k
            exact k
          | false =>
            refine ⟨false, congrArg V.bl e1, iteF ?_⟩
            refine ⟨_, rfl, (by show 2 ≤ sizeLine; decide), fun p np => ?_⟩
            have sp := same_upd (o := .tup [.int 1, .int 0]) np
            refine ⟨.tuple [.int a, .int b], .tuple [.int 1, .int 0], .tup (SqT.of (sp _ _ ht')) (.cons (.int _) (.cons (.int _) .nil)), .tup (SqT.of upd_same) (.cons (.int _) (.cons (.int _) .nil)), rfl, rfl, ?_⟩
            rw [eqv_open]
            have k := k _ sp
            rw [show (decide (0 ≤ a) && decide (0 < b)) = false by rw [e1, Bool.and_false], Bool.false_or] at k
            exact k
        · refine ⟨_, rfl, iteF ⟨_, rfl, (by show 2 ≤ sizeLine; decide), fun p np => ?_⟩⟩
          have sp := same_upd (o := .tup [.int 1, .int 0]) np
          refine ⟨.tuple [.int a, .int b], .tuple [.int 1, .int 0], .tup (SqT.of (sp _ _ ht')) (.cons (.int _) (.cons (.int _) .nil)), .tup (SqT.of upd_same) (.cons (.int _) (.cons (.int _) .nil)), rfl, rfl, ?_⟩
          rw [eqv_open]
          have k := k _ sp
          rw [show (decide (0 ≤ a) && decide (0 < b)) = false by rw [show decide (0 ≤ a) = false from Bool.eq_false_iff.mpr e0, Bool.false_and], Bool.false_or] at k
          exact k
end
end RL

set_option maxHeartbeats 4000000
namespace RL
open PySem L2 PySem.Spec PyProof.Rows
/-! ### what claims are made of -/
def lenB : PyData → Bool
  | .tuple ds => decide (ds.length ≤ 100)
  | _ => true
def PlOk (d : PyData) : Prop := Nd d ∧ SmD 3900 d ∧ lenB d = true
def HeadOk (d : PyData) : Prop := (d.hasDict = false ∧ SeqAt.shaped d = true) ∨ d = .dict []
def isNilD : PyData → Bool
  | .dict [] => true
  | _ => false
theorem nil_of {d : PyData} (h : isNilD d = true) : d = .dict [] := by
  cases d with
  | dict kvs =>
    cases kvs with
    | nil => rfl
    | cons a b => cases h
  | _ => cases h
def pcD (p : Pc) : PyData := .tuple [.str (wd p.1), .int p.2]
theorem pcD_ok {p : Pc} (h : PcOk p) : pieceG (pcD p) = true := by
  show (wordB (wd p.1) && (decide (1 ≤ p.2) && decide (p.2 ≤ 12))) = true
  rw [decide_eq_true h.1, decide_eq_true h.2]
  cases p.1 <;> decide +kernel
theorem rowD_ok {r : List Pc} (h : RowOk r) (l1 : 1 ≤ r.length) (l8 : r.length ≤ 8) : rowG (.tuple (r.map pcD)) = true := by
  show (decide (1 ≤ (r.map pcD).length) && (decide ((r.map pcD).length ≤ 8) && (r.map pcD).all pieceG)) = true
  rw [List.length_map, decide_eq_true l1, decide_eq_true l8, List.all_map]
  simp only [Bool.true_and, List.all_eq_true]
  exact fun p hp => pcD_ok (h p hp)
theorem hda_of {ds : List PyData} (h : ∀ d ∈ ds, d.hasDict = false) : PyData.hasDictAll ds = false := by
  induction ds with
  | nil => rfl
  | cons d ds ih =>
    simp only [PyData.hasDictAll, Bool.or_eq_false_iff]
    exact ⟨h d List.mem_cons_self, ih fun x hx => h x (List.mem_cons_of_mem _ hx)⟩
theorem row_nd {d : PyData} (h : rowG d = true) : Nd d := by
  obtain ⟨ds, rfl⟩ := row_tup h
  obtain ⟨_, _, hp⟩ := row_parts h
  refine .inl (hda_of fun x hx => ?_)
  obtain ⟨s, n, rfl, _⟩ := piece_of (hp x hx)
  rfl
theorem num_nd {d : PyData} (h : numG d = true) : Nd d := by
  rcases num_of h with ⟨i, rfl, _⟩ | ⟨a, b, rfl, _⟩
  · exact .inl rfl
  · exact .inl rfl
theorem dh_of_piece {c : Addr} {n : Nat} {H : Hp} {v : V} {p : Pc} (t : TapeAt c n H) (h : PieceAt H v p) : Dh c H v (pcD p) := by
  obtain ⟨a, rfl, ha⟩ := h
  exact Dr.ts (hid_of ha (t.nt ha)) (.cons (.str _) (.cons (.int _) .nil))
theorem dhs_of_pieces {c : Addr} {n : Nat} {H : Hp} {vs : List V} {r : List Pc} (t : TapeAt c n H) (h : PiecesAt H vs r) : Dhs c H vs (r.map pcD) := by
  refine ⟨by rw [List.length_map, h.1], fun i v d hv hd => ?_⟩
  obtain ⟨p, hp, q⟩ := h.at_ hv
  rw [List.getElem?_map, hp] at hd
  cases hd
  exact dh_of_piece t q
def spAnyRow : Sp := fun vs H Q _ => ∃ (c : Addr) (n : Nat) (L : Int), vs = [.ref c, .int L] ∧ TapeAt c n H ∧ n + 17 ≤ 1000000 ∧ 1 ≤ L ∧ L ≤ 8 ∧ ∀ H' v d, But c H H' → TapeAt c (n + 17) H' → Dh c H' v d → rowG d = true → Q v H'
def spAnyLoad : Sp := fun vs H Q _ => ∃ (c : Addr) (n : Nat), vs = [.ref c] ∧ TapeAt c n H ∧ n + 4 ≤ 1000000 ∧ ∀ H' v d, But c H H' → TapeAt c (n + 4) H' → Dh c H' v d → resG d = true → Q v H'
theorem sm_p {n : Nat} {x : Int} (h : x.natAbs ≤ 10 ^ 13) (l : 44 ≤ n) : Sm n x := by
  refine Sm.mono (m := 44) ?_ l
  have : (2 : Nat) ^ 44 = 17592186044416 := by decide
  unfold Sm
  omega
section
variable {P : Program} {w : World} {K : PySem.W.Frag} {mg : Str → Option Value} {base : Heap} {tG t1 t3 tC tK : Tok} {aO aW aCh : Addr}
abbrev s_law_anyrow : Stmt := top 112
theorem sc_law_anyrow : FnScope ["_law_tape", "_law_longest", "_law_many", "_law_turn"] ["_law_tape", "_law_longest"] (defScope s_law_anyrow) := ⟨rfl, rfl, rfl, by decide +kernel, rfl, by decide +kernel, by decide +kernel⟩

theorem ok_anyrow {f : Addr} {fd : FuncData} (F : Fun K "_law_anyrow" "_law_anyrow" s_law_anyrow f fd) (T : Txt K mg) (D_law_pick : Df P w K mg base 1 "_law_pick" ["_law_tape", "_law_many"] spDraw) : FnOk P w K mg base CX0 2 f fd ["_law_tape", "_law_longest"] spAnyRow := by
  refine F.ok sc_law_anyrow (fun vs H Q E h => ?_) (fun cdv A outer s H vs Q E hr h => ?_)
  · obtain ⟨c, n, L, rfl, _⟩ := h
    rfl
  · obtain ⟨c, n, L, rfl, ht, hn, L1, L8, k⟩ := h
    refine ⟨_, (pss_cons (ps_set (i := 2) sc_law_anyrow.nd rfl (.inl rfl) (pe_op op_add pe_int (pe_df D_law_pick (hr.mono (by decide)) (by rfl) (pa_cons (pv 0) (pa_cons (pv 1) pa_nil)))))
      (pss_one (ps_ret (pe_callTy call_tuple_of (by rfl) T.tuple_ (by decide +kernel) (pa_cons (pe_lc (own := [("_law_turn", 3)]) (g := gName 3) (tt := tYes) rfl sc_law_anyrow.nd (pi_range1 rfl T.range (pa_cons (pv 2) pa_nil)) (blkOk_by (N := ["_law_tape", "_law_longest", "_law_many", "_law_turn"]) (sc := defScope s_law_anyrow) (by decide +kernel)) (fun _ _ _ _ _ => pg_name (i := 3) sc_law_anyrow.nd rfl (Or.inl rfl)) (fun _ _ _ _ _ => pts_nil) (fun _ _ _ _ _ => (pe_tup (pa_cons (pe_ix (ix_listK (K := K)) (pe_lst (pa_cons pe_str (pa_cons pe_str pa_nil))) (pe_df D_law_pick (hr.mono (by decide)) (by rfl) (pa_cons (pv 0) (pa_cons pe_int pa_nil))) (fun _ _ => rfl)) (pa_cons (pe_op op_add pe_int (pe_df D_law_pick (hr.mono (by decide)) (by rfl) (pa_cons (pv 0) (pa_cons pe_int pa_nil)))) pa_nil))))) pa_nil))))), ?_⟩
    refine ⟨_, rfl, _, rfl, c, n, L, rfl, ht, by omega, by omega, sm_p (by omega) (by decide), fun H1 r b1 t1 r0 r1 => ?_⟩
    refine ⟨_, _, rfl, rfl, ?_⟩
    have hm : 1 + r ≤ 8 := by omega
    refine ⟨_, rfl, _, rfl, by omega, by omega, fun D hD => ?_⟩
    have nDc : D ≠ c := (t1.ne hD).symm
    refine lc_range (lo := 0) (n := (1 + r).toNat) (fun i H' => But c H1 H' ∧ TapeAt c (n + 1 + 2 * i) H' ∧ ∃ vs ps, H' D = some (.lst vs) ∧ PiecesAt H' vs ps ∧ RowOk ps ∧ ps.length = i) ⟨.of (same_upd hD), t1.same (same_upd hD), [], [], upd_same, ⟨rfl, fun i p h => by simp at h⟩, (fun p hp => by cases hp), rfl⟩ ?_ ?_
    · rintro i H' hi ⟨bD, tD, vs, ps, hDv, hps, hok, rfl⟩
      refine ⟨rfl, ?_⟩
      unfold tYes
      refine iteT ?_
      refine ⟨(by show 2 ≤ sizeLine; decide), fun l nl => ?_⟩
      have sl := same_upd (o := .lst [.str (Str.ofString "rail"), .str (Str.ofString "rung")]) nl
      refine ⟨_, rfl, c, _, 2, rfl, tD.same sl, by omega, by decide, sm_p (by decide) (by decide), fun H2 x b2 t2 x0 x1 => ?_⟩
      have nlc : l ≠ c := (tD.ne nl).symm
      have hl2 := b2 _ _ nlc upd_same
      obtain ⟨wv, hwv⟩ : ∃ b : Bool, ([.str (Str.ofString "rail"), .str (Str.ofString "rung")] : List V)[x.toNat]? = some (.str (wd b)) := by
        have : x = 0 ∨ x = 1 := by omega
        rcases this with rfl | rfl
        · exact ⟨true, rfl⟩
        · exact ⟨false, rfl⟩
      have ex : x = (x.toNat : Int) := (Int.toNat_of_nonneg x0).symm
      rw [ex]
      refine ⟨l, _, _, _, rfl, rfl, SqL.of hl2, atI_nat (j := x.toNat) hwv, ?_⟩
      refine ⟨_, rfl, c, _, 12, rfl, t2, by omega, by decide, sm_p (by decide) (by decide), fun H3 y b3 t3 y0 y1 => ?_⟩
      refine ⟨_, _, rfl, rfl, (by show 2 ≤ sizeLine; decide), fun p np => ?_⟩
      have sp := same_upd (o := .tup [.str (wd wv), .int (1 + y)]) np
      have bA : But c H' (upd H3 p (.tup [.str (wd wv), .int (1 + y)])) := ((But.of sl).trans (b2.trans b3)).trans (.of sp)
      have hD3 := bA _ _ nDc hDv
      have pz : PcOk (wv, 1 + y) := ⟨by dsimp; omega, by dsimp; omega⟩
      refine ⟨vs, hD3, ?_, ?_, ?_, vs ++ [.ref p], ps ++ [(wv, 1 + y)], upd_same, ?_, hok.app (fun q hq => by rw [List.mem_singleton.mp hq]; exact pz), by simp⟩
      · rw [hps.1]
        exact small1000 (by omega)
      · intro b o nb e
        rw [upd_ne (ne_of_none e hD)]
        exact bA _ _ nb (bD _ _ nb e)
      · have t4 := t3.same sp
        obtain ⟨u1, u2, u3, hc, rest⟩ := t4
        refine TapeAt.le (n := n + 1 + 2 * ps.length + 1 + 1) ⟨u1, u2, u3, ?_, rest⟩ (by omega)
        rw [upd_ne nDc.symm]
        exact hc
      · have h1 := (hps.but bA tD.notup)
        have nD : ∀ xs, (upd H3 p (.tup [.str (wd wv), .int (1 + y)])) D ≠ some (.tup xs) := fun xs z => by rw [hD3] at z; cases z
        have h2 := h1.but (x := D) (H' := upd (upd H3 p (.tup [.str (wd wv), .int (1 + y)])) D (.lst (vs ++ [.ref p]))) But.upd nD
        have hD30 := ((But.of sl).trans (b2.trans b3)) _ _ nDc hDv
        have npD : p ≠ D := (ne_of_none hD30 np).symm
        have one : PieceAt (upd (upd H3 p (.tup [.str (wd wv), .int (1 + y)])) D (.lst (vs ++ [.ref p]))) (.ref p) (wv, 1 + y) := ⟨p, rfl, by rw [upd_ne npD]; exact upd_same⟩
        refine ⟨by rw [List.length_append, List.length_append, h2.1]; rfl, fun j q hq => ?_⟩
        by_cases hj : j < ps.length
        · rw [List.getElem?_append_left hj] at hq
          obtain ⟨v, hv, hv'⟩ := h2.2 j q hq
          exact ⟨v, by rw [List.getElem?_append_left (by rw [h2.1]; exact hj)]; exact hv, hv'⟩
        · rw [List.getElem?_append_right (by omega)] at hq
          have hj0 : j - ps.length = 0 := by
            have := (List.getElem?_eq_some_iff.mp hq).1
            simp at this
            omega
          rw [hj0] at hq
          cases hq
          exact ⟨_, by rw [List.getElem?_append_right (by rw [h2.1]; omega), h2.1, hj0]; rfl, one⟩
    · rintro H' ⟨bD, tD, vs, ps, hDv, hps, hok, hlen⟩
      refine ⟨D, _, rfl, .inl ⟨SqL.of hDv, fun q nq => ?_⟩⟩
      have sq := same_upd (o := .tup vs) nq
      have tq := tD.same sq
      exact k _ (.ref q) (.tuple (ps.map pcD)) ((b1.trans bD).trans (.of sq)) (tq.le (by omega)) (Dh.new tD nq (dhs_of_pieces tD hps)) (rowD_ok hok (by omega) (by omega))
end
end RL

set_option maxHeartbeats 4000000
namespace RL
open PySem L2 PySem.Spec PyProof.Rows
theorem lit_ix {c : Addr} {n : Nat} {H H1 : Hp} {v : V} {ds : List PyData} (t : TapeAt c n H) (h : Dn H H1 v (.list ds)) : ∃ a vs, v = .ref a ∧ a ≠ c ∧ H1 a = some (.lst vs) ∧ Dhs c H1 vs ds := by
  obtain ⟨a, vs, rfl, ha, hv⟩ := Dr.list h
  obtain ⟨n0, ha'⟩ := fresh_get ha
  obtain ⟨_, _, _, e, _⟩ := t
  refine ⟨a, vs, rfl, ?_, ha', Drs.mono hv (fresh_hid e)⟩
  rintro rfl
  rw [e] at n0
  cases n0
theorem all_at {p : PyData → Bool} {ds : List PyData} {i : Nat} {d : PyData} (h : ds.all p = true) (e : ds[i]? = some d) : p d = true := by
  rw [List.all_eq_true] at h
  exact h d (List.mem_of_getElem? e)
section
variable {P : Program} {w : World} {K : PySem.W.Frag} {mg : Str → Option Value} {base : Heap} {tG t1 t3 tC tK : Tok} {aO aW aCh : Addr}
abbrev s_law_anyload : Stmt := top 118
theorem sc_law_anyload : FnScope ["_law_tape", "_law_way", "_law_by"] ["_law_tape"] (defScope s_law_anyload) := ⟨rfl, rfl, rfl, by decide +kernel, rfl, by decide +kernel, by decide +kernel⟩

theorem ok_anyload {f : Addr} {fd : FuncData} (F : Fun K "_law_anyload" "_law_anyload" s_law_anyload f fd) (D_law_pick : Df P w K mg base 1 "_law_pick" ["_law_tape", "_law_many"] spDraw) : FnOk P w K mg base CX0 2 f fd ["_law_tape"] spAnyLoad := by
  refine F.ok sc_law_anyload (fun vs H Q E h => ?_) (fun cdv A outer s H vs Q E hr h => ?_)
  · obtain ⟨c, n, rfl, _⟩ := h
    rfl
  · obtain ⟨c, n, rfl, ht, hn, k⟩ := h
    refine ⟨_, (pss_cons (ps_set (i := 1) sc_law_anyload.nd rfl (.inl rfl) (pe_df D_law_pick (hr.mono (by decide)) (by rfl) (pa_cons (pv 0) (pa_cons pe_int pa_nil))))
      (pss_cons (ps_if (pt_cmpR op_lt (pv 1) pe_int (nomark _)) (pss_one (ps_ret (pe_ix ix_list (pd_lst (pds_cons pd_int (pds_cons (pd_tup (pds_cons pd_int (pds_cons pd_int pds_nil))) pds_nil))) (pv 1) (fun _ _ => rfl)))) pss_nil)
      (pss_cons (ps_if (pt_cmpR op_eq (pv 1) pe_int (nomark _)) (pss_one (ps_ret (pe_ix ix_list (pd_lst (pds_cons (pd_tup (pds_cons pd_int (pds_cons pd_int pds_nil))) (pds_cons (pd_pow pd_int pd_int) (pds_cons (pd_tup (pds_cons pd_int (pds_cons (pd_pow pd_int pd_int) pds_nil))) (pds_cons (pd_tup (pds_cons (pd_pow pd_int pd_int) (pds_cons (pd_sub (pd_pow pd_int pd_int) pd_int) pds_nil))) pds_nil))))) (pe_df D_law_pick (hr.mono (by decide)) (by rfl) (pa_cons (pv 0) (pa_cons pe_int pa_nil))) (fun _ _ => rfl)))) pss_nil)
      (pss_cons (ps_if (pt_cmpR op_lt (pv 1) pe_int (nomark _)) (pss_one (ps_ret (pe_df D_law_pick (hr.mono (by decide)) (by rfl) (pa_cons (pv 0) (pa_cons pe_int pa_nil))))) pss_nil)
      (pss_cons (ps_if (pt_cmpR op_eq (pv 1) pe_int (nomark _)) (pss_one (ps_ret (pe_tup (pa_cons (pe_df D_law_pick (hr.mono (by decide)) (by rfl) (pa_cons (pv 0) (pa_cons (pe_op op_add (pe_op op_pow pe_int pe_int) pe_int) pa_nil))) (pa_cons (pe_op op_add pe_int (pe_df D_law_pick (hr.mono (by decide)) (by rfl) (pa_cons (pv 0) (pa_cons (pe_op op_pow pe_int pe_int) pa_nil)))) pa_nil))))) pss_nil)
      (pss_cons (ps_set (i := 2) sc_law_anyload.nd rfl (.inl rfl) (pe_op op_add pe_int (pe_df D_law_pick (hr.mono (by decide)) (by rfl) (pa_cons (pv 0) (pa_cons pe_int pa_nil)))))
      (pss_one (ps_ret (pe_tup (pa_cons (pe_op op_mulX (pv 2) (pe_df D_law_pick (hr.mono (by decide)) (by rfl) (pa_cons (pv 0) (pa_cons pe_int pa_nil)))) (pa_cons (pe_op op_mulX (pv 2) (pe_op op_add pe_int (pe_df D_law_pick (hr.mono (by decide)) (by rfl) (pa_cons (pv 0) (pa_cons pe_int pa_nil))))) pa_nil))))))))))), ?_⟩
    refine ⟨_, rfl, c, n, 9, rfl, ht, by omega, by decide, sm_p (by decide) (by decide), fun H1 r b1 t1 r0 r1 => ?_⟩
    refine ⟨_, rfl, _, _, rfl, rfl, _, rfl, ite2 (fun e => ?_) (fun e => ?_)⟩
    · have e := of_decide_eq_true e
      intro H2 v s2 hv
      obtain ⟨a, vs, rfl, nac, ha, hvs⟩ := lit_ix t1 hv
      obtain ⟨i, hi, rfl⟩ : ∃ i : Nat, i < 2 ∧ r = (i : Int) := ⟨r.toNat, by omega, (Int.toNat_of_nonneg r0).symm⟩
      obtain ⟨d, hd⟩ : ∃ d, ([PyData.int 0, PyData.tuple [PyData.int 1, PyData.int 0]] : List PyData)[i]? = some d := ⟨_, List.getElem?_eq_getElem hi⟩
      obtain ⟨x, hx, hdx⟩ := Drs.at_ hvs hd
      refine ⟨_, rfl, a, vs, _, _, rfl, rfl, SqL.of ha, atI_nat hx, ?_⟩
      exact k _ x d (b1.trans (.of s2)) ((t1.same s2).le (by omega)) hdx (all_at (p := resG) (by decide +kernel) hd)
    have e1 : ¬ r < 2 := fun z => e (decide_eq_true z)
    refine ⟨_, rfl, rfl, _, rfl, ite2 (fun e => ?_) (fun e => ?_)⟩
    · intro H2 v s2 hv
      obtain ⟨a, vs, rfl, nac, ha, hvs⟩ := lit_ix t1 hv
      refine ⟨_, rfl, c, _, 4, rfl, t1.same s2, by omega, by decide, sm_p (by decide) (by decide), fun H3 j b3 t3 j0 j1 => ?_⟩
      obtain ⟨i, hi, rfl⟩ : ∃ i : Nat, i < 4 ∧ j = (i : Int) := ⟨j.toNat, by omega, (Int.toNat_of_nonneg j0).symm⟩
      obtain ⟨d, hd⟩ : ∃ d, ([PyData.tuple [PyData.int 0, PyData.int 7], PyData.int (10 ^ Int.toNat 12), PyData.tuple [PyData.int 1, PyData.int (10 ^ Int.toNat 12)], PyData.tuple [PyData.int (10 ^ Int.toNat 12), PyData.int (10 ^ Int.toNat 12 - 1)]] : List PyData)[i]? = some d := ⟨_, List.getElem?_eq_getElem hi⟩
      obtain ⟨x, hx, hdx⟩ := Drs.at_ hvs hd
      refine ⟨a, vs, _, _, rfl, rfl, SqL.of (b3 _ _ nac ha), atI_nat hx, ?_⟩
      exact k _ x d ((b1.trans (.of s2)).trans b3) (t3.le (by omega)) (Dh.but hdx b3) (all_at (p := resG) (by decide +kernel) hd)
    refine ⟨_, rfl, _, _, rfl, rfl, _, rfl, ite2 (fun e => ?_) (fun e => ?_)⟩
    · refine ⟨_, rfl, c, _, 30, rfl, t1, by omega, by decide, sm_p (by decide) (by decide), fun H3 j b3 t3 j0 j1 => ?_⟩
      refine k _ _ (.int j) (b1.trans b3) (t3.le (by omega)) (.int _) ?_
      show (decide (0 ≤ j) && decide (j ≤ 1000000000000)) = true
      simp only [Bool.and_eq_true, decide_eq_true_eq]
      omega
    have mk : ∀ {H2 : Hp} {p : Addr} {x y : Int}, But c H H2 → TapeAt c (n + 4) H2 → H2 p = none → 0 ≤ x → x ≤ 1000000000000 → 1 ≤ y → y ≤ 1000000000000 → Q (.ref p) (upd H2 p (.tup [.int x, .int y])) := fun {H2 p x y} b t np x0 x1 y0 y1 => by
      refine k _ _ (.tuple [.int x, .int y]) (b.trans (.of (same_upd np))) (t.same (same_upd np)) (Dh.new t np (.cons (.int _) (.cons (.int _) .nil))) ?_
      show (decide (x = 1 ∧ y = 0) || (decide (0 ≤ x) && decide (x ≤ 1000000000000) && (decide (1 ≤ y) && decide (y ≤ 1000000000000)))) = true
      simp only [Bool.or_eq_true, Bool.and_eq_true, decide_eq_true_eq]
      omega
    refine ⟨_, rfl, rfl, _, rfl, ite2 (fun e => ?_) (fun e => ?_)⟩
    · refine ⟨_, rfl, _, _, rfl, rfl, ⟨by decide, by decide, by decide⟩, _, _, rfl, rfl, c, _, _, rfl, t1, by omega, by decide, sm_p (by decide) (by decide), fun H3 x b3 t3 x0 x1 => ?_⟩
      refine ⟨_, rfl, _, _, rfl, rfl, ⟨by decide, by decide, by decide⟩, c, _, _, rfl, t3, by omega, by decide, sm_p (by decide) (by decide), fun H4 y b4 t4 y0 y1 => ?_⟩
      have p12 : (10 : Int) ^ Int.toNat 12 = 1000000000000 := by decide
      rw [p12] at x1 y1
      refine ⟨_, _, rfl, rfl, (by show 2 ≤ sizeLine; decide), fun p np => ?_⟩
      exact mk ((b1.trans b3).trans b4) (t4.le (by omega)) np (by omega) (by omega) (by omega) (by omega)
    · refine ⟨_, rfl, c, _, 3, rfl, t1, by omega, by decide, sm_p (by decide) (by decide), fun H3 x b3 t3 x0 x1 => ?_⟩
      refine ⟨_, _, rfl, rfl, ?_⟩
      have sb : Sm 50 (1 + x) := sm_p (by omega) (by decide)
      refine ⟨_, rfl, _, rfl, c, _, 60, rfl, t3, by omega, by decide, sm_p (by decide) (by decide), fun H4 y b4 t4 y0 y1 => ?_⟩
      refine ⟨_, _, rfl, rfl, mx sb (sm_p (n := 50) (x := y) (by omega) (by decide)), _, rfl, _, rfl, c, _, 24, rfl, t4, by omega, by decide, sm_p (by decide) (by decide), fun H5 z b5 t5 z0 z1 => ?_⟩
      refine ⟨_, _, rfl, rfl, _, _, rfl, rfl, mx sb (sm_p (n := 50) (x := 1 + z) (by omega) (by decide)), (by show 2 ≤ sizeLine; decide), fun p np => ?_⟩
      have q1 : (1 + x) * y ≤ 3 * 60 := Int.le_trans (Int.mul_le_mul_of_nonneg_right (show 1 + x ≤ 3 by omega) y0) (Int.mul_le_mul_of_nonneg_left (show y ≤ 60 by omega) (by decide))
      have q2 : (1 + x) * (1 + z) ≤ 3 * 24 := Int.le_trans (Int.mul_le_mul_of_nonneg_right (show 1 + x ≤ 3 by omega) (by omega)) (Int.mul_le_mul_of_nonneg_left (show 1 + z ≤ 24 by omega) (by decide))
      have q3 : 0 ≤ (1 + x) * y := Int.mul_nonneg (by omega) y0
      have q4 : 1 * 1 ≤ (1 + x) * (1 + z) := Int.mul_le_mul (by omega) (by omega) (by decide) (by omega)
      exact mk (((b1.trans b3).trans b4).trans b5) (t5.le (by omega)) np q3 (by omega) (by omega) (by omega)
end
end RL

namespace RL
/-! ### joined patterns: products of their matrices -/
def Mx.mul (m n : Mx) : Mx := ⟨m.a * n.a + m.b * n.c, m.a * n.b + m.b * n.d, m.c * n.a + m.d * n.c, m.c * n.b + m.d * n.d⟩
/-! ### which way a ladder goes -/
def goV (m : Mx) (e : Int × Int) : Int := (m.app e).1 * e.2 - e.1 * (m.app e).2
/-! ### limits of joined ladders -/
end RL

namespace RL
/-! ### patterns from behind -/
def Mx.fl (m : Mx) : Mx := ⟨m.d, m.b, m.c, m.a⟩
/-! ### rows of both kinds -/
/-! ### the two limits -/
end RL

namespace RL
/-! ### rows of pieces with fractions as ohms; stars and rings -/
abbrev FPc := Bool × (Int × Int)
def FOk (p : FPc) : Prop := 1 ≤ p.2.1 ∧ 1 ≤ p.2.2 ∧ low p.2 = p.2
def fM (p : FPc) : Mx := if p.1 = true then ⟨p.2.2, p.2.1, 0, p.2.2⟩ else ⟨p.2.1, 0, p.2.2, p.2.1⟩
def frU (p : FPc) (e : Int × Int) : Int × Int := if p.1 = true then (e.1 * p.2.2 + p.2.1 * e.2, e.2 * p.2.2) else if e.2 = 0 then (p.2.1, p.2.2) else (p.2.1 * e.1, p.2.1 * e.2 + p.2.2 * e.1)
def frF (p : FPc) (e : Int × Int) : Int × Int := low (frU p e)
def frFR (r : List FPc) (e : Int × Int) : Int × Int := r.foldr frF e
def uM (w : Bool) (p q : Int) : Mx := if w = true then ⟨q, p, 0, q⟩ else ⟨p, 0, q, p⟩
def opt (w : Bool) (p q : Int) : List FPc := if (w = true ∧ p = 0) ∨ (w = false ∧ q = 0) then [] else [(w, low (p, q))]
/-! ### the scale beneath a and d -/
/-! ### stars and rings of rows -/
def starR (r : List Pc) : List FPc := if (matR r).c = 0 then [(true, low ((matR r).b, sclR r))] else opt true ((matR r).a - sclR r) (matR r).c ++ (opt false (sclR r) (matR r).c ++ opt true ((matR r).d - sclR r) (matR r).c)
def ringR (r : List Pc) : List FPc := if (matR r).b = 0 then [(false, low (sclR r, (matR r).c))] else opt false (matR r).b ((matR r).d - sclR r) ++ (opt true (matR r).b (sclR r) ++ opt false (matR r).b ((matR r).a - sclR r))
theorem flat {a d s : Int} (s0 : 0 < s) (ha : s ≤ a) (hd : s ≤ d) (h : a * d = s * s) : a = s ∧ d = s := by
  have h1 := Int.mul_le_mul_of_nonneg_right ha (show 0 ≤ d by omega)
  have h2 := Int.mul_le_mul_of_nonneg_left hd (show 0 ≤ s by omega)
  have h3 : s * d = s * s := by omega
  have h4 : d = s := Int.eq_of_mul_eq_mul_left (by omega) h3
  subst h4
  exact ⟨Int.eq_of_mul_eq_mul_right (by omega) h, rfl⟩
end RL

namespace RL
/-! ### stars and rings: their form, and those of short rows -/
def asF (r : List Pc) : List FPc := r.map fun p => (p.1, (p.2, 1))
end RL

/-! Repetitions of rows: the functions that the program computes. -/
namespace RL
def ch (t b : Int) : Nat → Int × Int → Int × Int
  | 0, e => e
  | n + 1, e => ((ch t b n e).2, t * (ch t b n e).2 - b * b * (ch t b n e).1)
def bis (P : Int → Bool) : Nat → Int → Int → Int
  | 0, lo, _ => lo
  | n + 1, lo, hi => if lo < hi then (if P ((lo + hi) / 2) = true then bis P n ((lo + hi) / 2 + 1) hi else bis P n lo ((lo + hi) / 2)) else lo
def bisR (P : Int → Bool) (lo hi : Int) : Int := bis P (hi - lo).toNat lo hi
def rootX (number : Int) (n : Nat) : Int := bisR (fun m => decide (m ^ n < number)) 1 number
def rootR (number : Int) (n : Nat) : Option Int := if rootX number n ^ n = number then some (rootX number n) else none
def sumX (n : Nat) (total b : Int) : Int := bisR (fun m => decide ((ch m b (n - 1) (2, m)).2 < total)) (2 * b) total
def sumR (n : Nat) (total b : Int) : Option Int := if (ch (sumX n total b) b (n - 1) (2, sumX n total b)).2 = total then some (sumX n total b) else none
def lostR (s top b : Int) (n : Nat) : Int := ((ch top b (n - 1) (0, 1)).2 - (ch top b (n - 1) (0, 1)).1 * b) * s
def rowT (m : Mx) (s b top : Int) (n : Nat) : Option (List FPc) :=
  if m.a * b ^ (n - 1) - lostR s top b n < 0 ∨ m.d * b ^ (n - 1) - lostR s top b n < 0 then none
  else some (opt true (m.a * b ^ (n - 1) - lostR s top b n) (m.c * b ^ (n - 1)) ++ (opt false ((ch top b (n - 1) (0, 1)).2 * s) (m.c * b ^ (n - 1)) ++ opt true (m.d * b ^ (n - 1) - lostR s top b n) (m.c * b ^ (n - 1))))
def rowR (m : Mx) (s total b : Int) (n : Nat) : Option (List FPc) := match sumR n total b with
  | none => none
  | some top => rowT m s b top n
def tryR (m : Mx) (s total bottom : Int) (n : Nat) : Option (List FPc) := match rootR bottom n with
  | none => none
  | some b => rowR m s total b n
def repL (m : Mx) (s total bottom : Int) : Nat → Option (Nat × List FPc)
  | 0 => none
  | n + 1 => match tryR m s total bottom (n + 1) with
    | some r => some (n + 1, r)
    | none => repL m s total bottom n

def repR (bitsN : Int → Nat) (r : List Pc) : Option (Nat × List FPc) :=
  if (matR r).b = 0 ∨ (matR r).c = 0 then none
  else repL (matR r) (sclR r) (low ((matR r).a + (matR r).d, sclR r)).1 (low ((matR r).a + (matR r).d, sclR r)).2 (bitsN (low ((matR r).a + (matR r).d, sclR r)).1)
/-! ### from behind -/
/-! ### bounds -/
end RL

/-! How fast ladders come near their limits. -/
namespace RL
end RL

namespace RL
structure Quick (m : Mx) (s : Int) : Prop where
  s0 : 0 < s
  a1 : s ≤ m.a
  d1 : s ≤ m.d
  b1 : s ≤ m.b
  c1 : s ≤ 12 * m.c
  a2 : m.a ≤ 28561 * s
  b2 : m.b ≤ 28561 * s
  c2 : m.c ≤ 28561 * s
  det : m.a * m.d - m.b * m.c = s * s
  tr : 52 * s ≤ 25 * (m.a + m.d)
section
variable {m : Mx} {s : Int} {e : Int × Int}
end
end RL

namespace RL
end RL

/-! Stars and rings tell patterns apart; stars of patterns joined. -/
namespace RL
end RL

/-! Patterns that never show more than others: the sign of a parabola from 0 on. -/
namespace RL
def sgn (n : Int) : Int := if n > 0 then 1 else if n < 0 then -1 else 0
theorem sgn_lt {n : Int} : sgn n < 0 ↔ n < 0 := by
  unfold sgn
  split
  · omega
  · split <;> omega
theorem sgn_gt {n : Int} : sgn n > 0 ↔ n > 0 := by
  unfold sgn
  split
  · omega
  · split <;> omega
theorem sgn_ne {n : Int} : (sgn n != 0) = true ↔ n ≠ 0 := by
  unfold sgn
  split
  · simp; omega
  · split
    · simp; omega
    · simp; omega
def qS (m n : Mx) : Int := m.a * n.c - n.a * m.c
def qL (m n : Mx) : Int := m.a * n.d + m.b * n.c - n.a * m.d - n.b * m.c
def qW (m n : Mx) : Int := m.b * n.d - n.b * m.d
def qv (S L W : Int) (e : Int × Int) : Int := S * e.1 * e.1 + L * e.1 * e.2 + W * e.2 * e.2
def farS (S L W : Int) : Int := if (sgn S != 0) = true then sgn S else if (sgn L != 0) = true then sgn L else sgn W
theorem far_lt {S L W : Int} : farS S L W < 0 ↔ S < 0 ∨ (S = 0 ∧ (L < 0 ∨ (L = 0 ∧ W < 0))) := by
  unfold farS
  by_cases h : S = 0
  · rw [if_neg (fun z => sgn_ne.mp z h)]
    by_cases h' : L = 0
    · rw [if_neg (fun z => sgn_ne.mp z h'), sgn_lt]
      omega
    · rw [if_pos (sgn_ne.mpr h'), sgn_lt]
      omega
  · rw [if_pos (sgn_ne.mpr h), sgn_lt]
    omega
def nbB (S L W : Int) : Bool := decide (¬ (W < 0 ∨ farS S L W < 0) ∧ (S ≤ 0 ∨ L ≥ 0 ∨ L * L ≤ 4 * S * W))
def endsE (S L W : Int) : List (Int × Int) := [(0, 1), (1, 0)] ++ (if S ≠ 0 ∧ L ≠ 0 then [low ((L.natAbs : Int), 2 * (S.natAbs : Int))] else []) ++ (if L ≠ 0 then [low ((W.natAbs : Int) + 1, (L.natAbs : Int))] else [])
theorem qv_sc (S L W k : Int) (e : Int × Int) : qv S L W (sc k e) = k * k * qv S L W e := by
  unfold qv sc
  dsimp
  grind
theorem qv_low {S L W : Int} {e : Int × Int} (h : Pos2 e) : qv S L W (low e) < 0 ↔ qv S L W e < 0 := by
  have g := gc_pos2 h
  have e1 : qv S L W e = gc e.1 e.2 * gc e.1 e.2 * qv S L W (low e) := by
    rw [← qv_sc, ← low_is h]
  rw [e1]
  have gg := Int.mul_pos g g
  constructor
  · intro z
    have := Int.mul_pos gg (show 0 < -qv S L W (low e) by omega)
    have e2 : gc e.1 e.2 * gc e.1 e.2 * -qv S L W (low e) = -(gc e.1 e.2 * gc e.1 e.2 * qv S L W (low e)) := by grind
    omega
  · intro z
    rcases Int.lt_or_le (qv S L W (low e)) 0 with y | y
    · exact y
    · have := Int.mul_nonneg (Int.le_of_lt gg) y
      omega
def lowE (S L W : Int) : Int × Int := if W < 0 then (0, 1) else if S < 0 then (1, 0) else if S = 0 then (W - L, -L) else (-L, 2 * S)
theorem nb_not {S L W : Int} (h : nbB S L W = false) : W < 0 ∨ S < 0 ∨ (S = 0 ∧ L < 0 ∧ 0 ≤ W) ∨ (0 < S ∧ L < 0 ∧ 0 ≤ W ∧ 4 * S * W < L * L) := by
  have h := of_decide_eq_false h
  rw [far_lt] at h
  omega
theorem q_two {S L W : Int} (h : S = 0 ∧ L < 0 ∧ 0 ≤ W) : qv S L W (W + 1, -L) < 0 ∧ qv S L W (W - L, -L) < 0 := by
  obtain ⟨rfl, l, w⟩ := h
  have n1 := Int.mul_pos (show 0 < -L by omega) (show 0 < -L by omega)
  have n2 := Int.mul_pos n1 (show 0 < -L by omega)
  unfold qv
  dsimp
  have e1 : (0 : Int) * (W + 1) * (W + 1) + L * (W + 1) * -L + W * -L * -L = -(-L * -L) := by grind
  have e2 : (0 : Int) * (W - L) * (W - L) + L * (W - L) * -L + W * -L * -L = -(-L * -L * -L) := by grind
  omega
theorem q_three {S L W : Int} (h : 0 < S ∧ L < 0 ∧ 0 ≤ W ∧ 4 * S * W < L * L) : qv S L W (-L, 2 * S) < 0 := by
  obtain ⟨s, l, w, k⟩ := h
  have n1 := Int.mul_pos s (show 0 < L * L - 4 * S * W by omega)
  unfold qv
  dsimp
  have e1 : S * -L * -L + L * -L * (2 * S) + W * (2 * S) * (2 * S) = -(S * (L * L - 4 * S * W)) := by grind
  omega
theorem lowE_pos {S L W : Int} (h : nbB S L W = false) : Pos2 (lowE S L W) := by
  unfold lowE
  have z := nb_not h
  split
  · exact ⟨by decide, by decide, .inr (by decide)⟩
  · split
    · exact ⟨by decide, by decide, .inl (by decide)⟩
    · split
      · exact ⟨by dsimp; omega, by dsimp; omega, .inr (by dsimp; omega)⟩
      · exact ⟨by dsimp; omega, by dsimp; omega, .inr (by dsimp; omega)⟩
theorem lowE_neg {S L W : Int} (h : nbB S L W = false) : qv S L W (lowE S L W) < 0 := by
  unfold lowE
  have z := nb_not h
  split
  · unfold qv
    dsimp
    simp
    omega
  · split
    · unfold qv
      dsimp
      simp
      omega
    · split
      · exact (q_two (by omega)).2
      · exact q_three (by omega)
end RL

set_option maxHeartbeats 4000000
namespace RL
open PySem L2 PySem.Spec PyProof.Rows
def ParAt (H : Hp) (z : Addr) (S L W : Int) : Prop := H z = some (.tup [.int S, .int L, .int W])
abbrev PrT (K : PySem.W.Frag) (H : Hp) (p : Addr) (e : Int × Int) : Prop := SqT K H p [.int e.1, .int e.2]
def spSgZ : Sp := fun vs H Q _ => ∃ n : Int, vs = [.int n] ∧ Q (.int (sgn n)) H
def spPOZ (K : PySem.W.Frag) : Sp := fun vs H Q _ => ∃ (p q : Addr) (e f : Int × Int), vs = [.ref p, .ref q] ∧ PrT K H p e ∧ PrT K H q f ∧ Sm 200 e.1 ∧ Sm 200 e.2 ∧ Sm 200 f.1 ∧ Sm 200 f.2 ∧ Q (.int (sgn (e.1 * f.2 - f.1 * e.2))) H
def spDiff : Sp := fun vs H Q _ => ∃ (p q : Addr) (m n : Mx), vs = [.ref p, .ref q] ∧ H p = some (.tup (MatT m)) ∧ H q = some (.tup (MatT n)) ∧ MxSm 30 m ∧ MxSm 30 n ∧ ∀ H' z, Same H H' → ParAt H' z (qS m n) (qL m n) (qW m n) → Q (.ref z) H'
def spSAt (K : PySem.W.Frag) : Sp := fun vs H Q _ => ∃ (z p : Addr) (S L W : Int) (e : Int × Int), vs = [.ref z, .ref p] ∧ ParAt H z S L W ∧ PrT K H p e ∧ Sm 70 S ∧ Sm 70 L ∧ Sm 70 W ∧ Sm 200 e.1 ∧ Sm 200 e.2 ∧ Q (.int (sgn (qv S L W e))) H
def spFar : Sp := fun vs H Q _ => ∃ (z : Addr) (S L W : Int), vs = [.ref z] ∧ ParAt H z S L W ∧ Q (.int (farS S L W)) H
def spFrom (K : PySem.W.Frag) : Sp := fun vs H Q _ => ∃ (z p : Addr) (S L W : Int) (e : Int × Int), vs = [.ref z, .ref p] ∧ ParAt H z S L W ∧ PrT K H p e ∧ e.2 ≠ 0 ∧ Sm 70 S ∧ Sm 70 L ∧ Sm 70 W ∧ Sm 200 e.1 ∧ Sm 200 e.2 ∧ Q (.int (sgn (qv S L W e))) H
def spTow (aO : Addr) : Sp := fun vs H Q _ => ∃ (z : Addr) (S L W : Int), vs = [.ref z, .ref aO] ∧ ParAt H z S L W ∧ Q (.int (farS S L W)) H
def spLB (K : PySem.W.Frag) (aO : Addr) : Sp := fun vs H Q _ => ∃ (p : Addr) (e : Int × Int), vs = [.ref aO, .ref p] ∧ PrT K H p e ∧ Sm 200 e.1 ∧ Sm 200 e.2 ∧ Q (.int (sgn (1 * e.2 - e.1 * 0))) H
def spNB (aO : Addr) : Sp := fun vs H Q _ => ∃ (z p : Addr) (S L W : Int), vs = [.ref z, .ref p, .ref aO] ∧ ParAt H z S L W ∧ PairAt H p (0, 1) ∧ Sm 70 S ∧ Sm 70 L ∧ Sm 70 W ∧ ∀ H', Same H H' → Q (.bl (nbB S L W)) H'
theorem qv_01 (S L W : Int) : qv S L W (0, 1) = W := by
  unfold qv
  dsimp
  simp
theorem sgZ_weak (vs : List V) (H : Hp) (Q : VK) (E : XK) (h : spSgZ vs H Q E) : spSign vs H Q E := h
section
variable {P : Program} {w : World} {K : PySem.W.Frag} {mg : Str → Option Value} {base : Heap} {tG t1 t3 tC tK : Tok} {aO aW aCh : Addr}
theorem ok_poZ {f : Addr} {fd : FuncData} (F : Fun K "pair_order" "pair_order" s_pair_order f fd) (D_sign : Df P w K mg base 1 "sign" ["number"] spSgZ) : FnOk P w K mg base CX0 2 f fd ["first", "second"] (spPOZ K) := by
  refine F.ok sc_pair_order (fun vs H Q E h => ?_) (fun cdv A outer s H vs Q E hr h => ?_)
  · obtain ⟨p, q, e, f, rfl, _⟩ := h
    rfl
  · obtain ⟨p, q, e, f, rfl, hp, hq, e1, e2, f1, f2, k⟩ := h
    refine ⟨_, (pss_one (ps_ret (pe_df D_sign (hr.mono (by decide)) (by rfl) (pa_cons (pe_op op_sub (pe_op op_mulX (pe_ix ix_tup (pv 0) pe_int (fun _ _ => rfl)) (pe_ix ix_tup (pv 1) pe_int (fun _ _ => rfl))) (pe_op op_mulX (pe_ix ix_tup (pv 1) pe_int (fun _ _ => rfl)) (pe_ix ix_tup (pv 0) pe_int (fun _ _ => rfl)))) pa_nil)))), ?_⟩
    exact ⟨_, rfl, p, _, _, _, rfl, rfl, hp, atI_nat (j := 0) rfl, _, rfl, q, _, _, _, rfl, rfl, hq, atI_nat (j := 1) rfl, _, _, rfl, rfl, mx e1 f2, _, rfl, q, _, _, _, rfl, rfl, hq, atI_nat (j := 0) rfl, _, rfl, p, _, _, _, rfl, rfl, hp, atI_nat (j := 1) rfl, _, _, rfl, rfl, mx f1 e2, _, _, rfl, rfl, _, rfl, k⟩
abbrev s_difference : Stmt := top 70
theorem sc_difference : FnScope ["matrix", "other_matrix", "a", "b", "c", "d", "other_a", "other_b", "other_c", "other_d", "square", "line", "whole"] ["matrix", "other_matrix"] (defScope s_difference) := ⟨rfl, rfl, rfl, by decide +kernel, rfl, by decide +kernel, by decide +kernel⟩

theorem ok_diff {f : Addr} {fd : FuncData} (F : Fun K "difference" "difference" s_difference f fd) : FnOk P w K mg base CX0 1 f fd ["matrix", "other_matrix"] spDiff := by
  refine F.ok sc_difference (fun vs H Q E h => ?_) (fun cdv A outer s H vs Q E hr h => ?_)
  · obtain ⟨p, q, m, n, rfl, _⟩ := h
    rfl
  · obtain ⟨p, q, m, n, rfl, hp, hq, ⟨a, b, c, d⟩, ⟨a', b', c', d'⟩, k⟩ := h
    refine ⟨_, (pss_cons (ps_asg (pv 0) (pg_tup rfl (pgs_cons (pg_name (i := 2) sc_difference.nd rfl (.inl rfl)) (pgs_cons (pg_name (i := 3) sc_difference.nd rfl (.inl rfl)) (pgs_cons (pg_name (i := 4) sc_difference.nd rfl (.inl rfl)) (pgs_cons (pg_name (i := 5) sc_difference.nd rfl (.inl rfl)) pgs_nil))))))
      (pss_cons (ps_asg (pv 1) (pg_tup rfl (pgs_cons (pg_name (i := 6) sc_difference.nd rfl (.inl rfl)) (pgs_cons (pg_name (i := 7) sc_difference.nd rfl (.inl rfl)) (pgs_cons (pg_name (i := 8) sc_difference.nd rfl (.inl rfl)) (pgs_cons (pg_name (i := 9) sc_difference.nd rfl (.inl rfl)) pgs_nil))))))
      (pss_cons (ps_set (i := 10) sc_difference.nd rfl (.inl rfl) (pe_op op_sub (pe_op op_mulX (pv 2) (pv 8)) (pe_op op_mulX (pv 6) (pv 4))))
      (pss_cons (ps_set (i := 11) sc_difference.nd rfl (.inl rfl) (pe_op op_sub (pe_op op_sub (pe_op op_add (pe_op op_mulX (pv 2) (pv 9)) (pe_op op_mulX (pv 3) (pv 8))) (pe_op op_mulX (pv 6) (pv 5))) (pe_op op_mulX (pv 7) (pv 4))))
      (pss_cons (ps_set (i := 12) sc_difference.nd rfl (.inl rfl) (pe_op op_sub (pe_op op_mulX (pv 3) (pv 9)) (pe_op op_mulX (pv 7) (pv 5))))
      (pss_one (ps_ret (pe_tup (pa_cons (pv 10) (pa_cons (pv 11) (pa_cons (pv 12) pa_nil))))))))))), ?_⟩
    refine ⟨_, rfl, p, _, rfl, SqT.of hp, rfl, _, _, rfl, _, _, rfl, _, _, rfl, _, _, rfl, rfl, ?_⟩
    refine ⟨_, rfl, q, _, rfl, SqT.of hq, rfl, _, _, rfl, _, _, rfl, _, _, rfl, _, _, rfl, rfl, ?_⟩
    refine ⟨_, rfl, _, rfl, _, _, rfl, rfl, mx a c', _, rfl, _, rfl, _, _, rfl, rfl, mx a' c, _, _, rfl, rfl, ?_⟩
    refine ⟨_, rfl, _, rfl, _, _, rfl, rfl, mx a d', _, rfl, _, rfl, _, _, rfl, rfl, mx b c', _, _, rfl, rfl, _, rfl, _, rfl, _, _, rfl, rfl, mx a' d, _, _, rfl, rfl, _, rfl, _, rfl, _, _, rfl, rfl, mx b' c, _, _, rfl, rfl, ?_⟩
    refine ⟨_, rfl, _, rfl, _, _, rfl, rfl, mx b d', _, rfl, _, rfl, _, _, rfl, rfl, mx b' d, _, _, rfl, rfl, ?_⟩
    exact ⟨_, rfl, _, rfl, _, rfl, (by show 3 ≤ sizeLine; decide), fun z nz => k _ z (same_upd nz) upd_same⟩
abbrev s_sign_at : Stmt := top 72
theorem sc_sign_at : FnScope ["parabola", "pair", "square", "line", "whole", "top", "bottom"] ["parabola", "pair"] (defScope s_sign_at) := ⟨rfl, rfl, rfl, by decide +kernel, rfl, by decide +kernel, by decide +kernel⟩

theorem ok_sat {f : Addr} {fd : FuncData} (F : Fun K "sign_at" "sign_at" s_sign_at f fd) (D_sign : Df P w K mg base 1 "sign" ["number"] spSgZ) : FnOk P w K mg base CX0 2 f fd ["parabola", "pair"] (spSAt K) := by
  refine F.ok sc_sign_at (fun vs H Q E h => ?_) (fun cdv A outer s H vs Q E hr h => ?_)
  · obtain ⟨z, p, S, L, W, e, rfl, _⟩ := h
    rfl
  · obtain ⟨z, p, S, L, W, e, rfl, hz, hp, sS, sL, sW, e1, e2, k⟩ := h
    refine ⟨_, (pss_cons (ps_asg (pv 0) (pg_tup rfl (pgs_cons (pg_name (i := 2) sc_sign_at.nd rfl (.inl rfl)) (pgs_cons (pg_name (i := 3) sc_sign_at.nd rfl (.inl rfl)) (pgs_cons (pg_name (i := 4) sc_sign_at.nd rfl (.inl rfl)) pgs_nil)))))
      (pss_cons (ps_asg (pv 1) (pg_tup rfl (pgs_cons (pg_name (i := 5) sc_sign_at.nd rfl (.inl rfl)) (pgs_cons (pg_name (i := 6) sc_sign_at.nd rfl (.inl rfl)) pgs_nil))))
      (pss_one (ps_ret (pe_df D_sign (hr.mono (by decide)) (by rfl) (pa_cons (pe_op op_add (pe_op op_add (pe_op op_mulX (pe_op op_mulX (pv 2) (pv 5)) (pv 5)) (pe_op op_mulX (pe_op op_mulX (pv 3) (pv 5)) (pv 6))) (pe_op op_mulX (pe_op op_mulX (pv 4) (pv 6)) (pv 6))) pa_nil)))))), ?_⟩
    refine ⟨_, rfl, z, _, rfl, SqT.of hz, rfl, _, _, rfl, _, _, rfl, _, _, rfl, rfl, ?_⟩
    refine ⟨_, rfl, p, _, rfl, hp, rfl, _, _, rfl, _, _, rfl, rfl, ?_⟩
    exact ⟨_, rfl, _, rfl, _, _, rfl, rfl, mx sS e1, _, rfl, _, _, rfl, rfl, mx (sS.mul e1) e1, _, rfl, _, rfl, _, _, rfl, rfl, mx sL e1, _, rfl, _, _, rfl, rfl, mx (sL.mul e1) e2, _, _, rfl, rfl, _, rfl, _, rfl, _, _, rfl, rfl, mx sW e2, _, rfl, _, _, rfl, rfl, mx (sW.mul e2) e2, _, _, rfl, rfl, _, rfl, k⟩
abbrev s_sign_far_out : Stmt := top 73
theorem sc_sign_far_out : FnScope ["parabola", "square", "line", "whole"] ["parabola"] (defScope s_sign_far_out) := ⟨rfl, rfl, rfl, by decide +kernel, rfl, by decide +kernel, by decide +kernel⟩

theorem ok_far {f : Addr} {fd : FuncData} (F : Fun K "sign_far_out" "sign_far_out" s_sign_far_out f fd) (D_sign : Df P w K mg base 1 "sign" ["number"] spSgZ) : FnOk P w K mg base CX0 2 f fd ["parabola"] spFar := by
  refine F.ok sc_sign_far_out (fun vs H Q E h => ?_) (fun cdv A outer s H vs Q E hr h => ?_)
  · obtain ⟨z, S, L, W, rfl, _⟩ := h
    rfl
  · obtain ⟨z, S, L, W, rfl, hz, k⟩ := h
    refine ⟨_, (pss_cons (ps_asg (pv 0) (pg_tup rfl (pgs_cons (pg_name (i := 1) sc_sign_far_out.nd rfl (.inl rfl)) (pgs_cons (pg_name (i := 2) sc_sign_far_out.nd rfl (.inl rfl)) (pgs_cons (pg_name (i := 3) sc_sign_far_out.nd rfl (.inl rfl)) pgs_nil)))))
      (pss_one (ps_ret (pe_orT (pe_df D_sign (hr.mono (by decide)) (by rfl) (pa_cons (pv 1) pa_nil)) (pe_orT (pe_df D_sign (hr.mono (by decide)) (by rfl) (pa_cons (pv 2) pa_nil)) (pe_one (pe_df D_sign (hr.mono (by decide)) (by rfl) (pa_cons (pv 3) pa_nil)))))))), ?_⟩
    refine ⟨_, rfl, z, _, rfl, SqT.of hz, rfl, _, _, rfl, _, _, rfl, _, _, rfl, rfl, ?_⟩
    unfold farS at k
    refine ⟨_, rfl, _, rfl, _, rfl, ite2 (fun e => ?_) (fun e => ?_)⟩
    · rw [if_pos e] at k
      exact k
    · rw [if_neg e] at k
      refine ⟨_, rfl, _, rfl, _, rfl, ite2 (fun e => ?_) (fun e => ?_)⟩
      · rw [if_pos e] at k
        exact k
      · rw [if_neg e] at k
        exact ⟨_, rfl, _, rfl, k⟩
abbrev s_sign_from : Stmt := top 74
theorem sc_sign_from : FnScope ["parabola", "pair"] ["parabola", "pair"] (defScope s_sign_from) := ⟨rfl, rfl, rfl, by decide +kernel, rfl, by decide +kernel, by decide +kernel⟩

theorem ok_from {f : Addr} {fd : FuncData} (F : Fun K "sign_from" "sign_from" s_sign_from f fd) (D_sign_far_out : Df P w K mg base 2 "sign_far_out" ["parabola"] spFar) (D_sign_at : Df P w K mg base 2 "sign_at" ["parabola", "pair"] (spSAt K)) : FnOk P w K mg base CX0 3 f fd ["parabola", "pair"] (spFrom K) := by
  refine F.ok sc_sign_from (fun vs H Q E h => ?_) (fun cdv A outer s H vs Q E hr h => ?_)
  · obtain ⟨z, p, S, L, W, e, rfl, _⟩ := h
    rfl
  · obtain ⟨z, p, S, L, W, e, rfl, hz, hp, n0, sS, sL, sW, e1, e2, k⟩ := h
    refine ⟨_, (pss_one (ps_ret (pe_ifExp (pt_cmpR op_eq (pe_ix ix_tup (pv 1) pe_int (fun _ _ => rfl)) pe_int (nomark _)) (pe_df D_sign_far_out (hr.mono (by decide)) (by rfl) (pa_cons (pv 0) pa_nil)) (pe_df D_sign_at (hr.mono (by decide)) (by rfl) (pa_cons (pv 0) (pa_cons (pv 1) pa_nil)))))), ?_⟩
    refine ⟨_, rfl, p, _, _, _, rfl, rfl, hp, atI_nat (j := 1) rfl, rfl, _, rfl, ite2 (fun e => absurd (V.int.inj (of_decide_eq_true e)) n0) (fun _ => ?_)⟩
    exact ⟨_, rfl, _, rfl, z, p, S, L, W, e, rfl, hz, hp, sS, sL, sW, e1, e2, k⟩
abbrev s_sign_towards : Stmt := top 75
theorem sc_sign_towards : FnScope ["parabola", "limit", "square", "line", "whole", "limit_square", "limit_line", "limit_whole", "slope", "height"] ["parabola", "limit"] (defScope s_sign_towards) := ⟨rfl, rfl, rfl, by decide +kernel, rfl, by decide +kernel, by decide +kernel⟩

theorem ok_tow {f : Addr} {fd : FuncData} (F : Fun K "sign_towards" "sign_towards" s_sign_towards f fd) (T : Txt2 K mg tG aO) (D_sign_far_out : Df P w K mg base 2 "sign_far_out" ["parabola"] spFar) : FnOk P w K mg base CX0 3 f fd ["parabola", "limit"] (spTow aO) := by
  refine F.ok sc_sign_towards (fun vs H Q E h => ?_) (fun cdv A outer s H vs Q E hr h => ?_)
  · obtain ⟨z, S, L, W, rfl, _⟩ := h
    rfl
  · obtain ⟨z, S, L, W, rfl, hz, k⟩ := h
    refine ⟨_, (pss_cons (ps_asg (pv 0) (pg_tup rfl (pgs_cons (pg_name (i := 2) sc_sign_towards.nd rfl (.inl rfl)) (pgs_cons (pg_name (i := 3) sc_sign_towards.nd rfl (.inl rfl)) (pgs_cons (pg_name (i := 4) sc_sign_towards.nd rfl (.inl rfl)) pgs_nil)))))
      (pss_cons (ps_if (pt_cmpR (op_eqD hr.units) (pv 1) (pe_glob (v := .ref aO) rfl T.mgO rfl) (nomark _)) (pss_one (ps_ret (pe_df D_sign_far_out (hr.mono (by decide)) (by rfl) (pa_cons (pv 0) pa_nil)))) pss_nil)
      pss_never)), ?_⟩
    refine ⟨_, rfl, z, _, rfl, SqT.of hz, rfl, _, _, rfl, _, _, rfl, _, _, rfl, rfl, ?_⟩
    refine ⟨_, rfl, .tuple [.int 1, .int 0], .tuple [.int 1, .int 0], .tup (.inr T.opn) (.cons (.int _) (.cons (.int _) .nil)), .tup (.inr T.opn) (.cons (.int _) (.cons (.int _) .nil)), rfl, rfl, _, rfl, ite2 (fun _ => ?_) (fun e => absurd (SeqAt.eqv_refl _ (by decide +kernel)) e)⟩
    exact ⟨_, rfl, z, S, L, W, rfl, hz, k⟩
abbrev s_limit_beside : Stmt := top 65
theorem sc_limit_beside : FnScope ["limit", "pair", "top", "bottom"] ["limit", "pair"] (defScope s_limit_beside) := ⟨rfl, rfl, rfl, by decide +kernel, rfl, by decide +kernel, by decide +kernel⟩

theorem ok_lb {f : Addr} {fd : FuncData} (F : Fun K "limit_beside" "limit_beside" s_limit_beside f fd) (T : Txt2 K mg tG aO) (D_pair_order : Df P w K mg base 2 "pair_order" ["first", "second"] (spPOZ K)) : FnOk P w K mg base CX0 3 f fd ["limit", "pair"] (spLB K aO) := by
  refine F.ok sc_limit_beside (fun vs H Q E h => ?_) (fun cdv A outer s H vs Q E hr h => ?_)
  · obtain ⟨p, e, rfl, _⟩ := h
    rfl
  · obtain ⟨p, e, rfl, hp, e1, e2, k⟩ := h
    refine ⟨_, (pss_cons (ps_if (pt_cmpR (op_eqD hr.units) (pv 0) (pe_glob (v := .ref aO) rfl T.mgO rfl) (nomark _)) (pss_one (ps_ret (pe_df D_pair_order (hr.mono (by decide)) (by rfl) (pa_cons (pe_glob (v := .ref aO) rfl T.mgO rfl) (pa_cons (pv 1) pa_nil))))) pss_nil)
      pss_never), ?_⟩
    refine ⟨_, rfl, .tuple [.int 1, .int 0], .tuple [.int 1, .int 0], .tup (.inr T.opn) (.cons (.int _) (.cons (.int _) .nil)), .tup (.inr T.opn) (.cons (.int _) (.cons (.int _) .nil)), rfl, rfl, _, rfl, ite2 (fun _ => ?_) (fun e => absurd (SeqAt.eqv_refl _ (by decide +kernel)) e)⟩
    exact ⟨_, rfl, aO, p, (1, 0), e, rfl, .inr T.opn, hp, by unfold Sm; decide, by unfold Sm; decide, e1, e2, k⟩
abbrev s_never_below : Stmt := top 76
theorem sc_never_below : FnScope ["parabola", "pair", "limit", "square", "line", "whole", "lowest"] ["parabola", "pair", "limit"] (defScope s_never_below) := ⟨rfl, rfl, rfl, by decide +kernel, rfl, by decide +kernel, by decide +kernel⟩

theorem ok_nb {f : Addr} {fd : FuncData} (F : Fun K "never_below" "never_below" s_never_below f fd) (D_sign_from : Df P w K mg base 3 "sign_from" ["parabola", "pair"] (spFrom K)) (D_sign_towards : Df P w K mg base 3 "sign_towards" ["parabola", "limit"] (spTow aO)) (D_pair_order : Df P w K mg base 2 "pair_order" ["first", "second"] (spPOZ K)) (D_limit_beside : Df P w K mg base 3 "limit_beside" ["limit", "pair"] (spLB K aO)) : FnOk P w K mg base CX0 4 f fd ["parabola", "pair", "limit"] (spNB aO) := by
  refine F.ok sc_never_below (fun vs H Q E h => ?_) (fun cdv A outer s H vs Q E hr h => ?_)
  · obtain ⟨z, p, S, L, W, rfl, _⟩ := h
    rfl
  · obtain ⟨z, p, S, L, W, rfl, hz, hp, sS, sL, sW, k⟩ := h
    refine ⟨_, (pss_cons (ps_if (PW.pt (pw_or (pt_cmpR op_lt (pe_df D_sign_from (hr.mono (by decide)) (by rfl) (pa_cons (pv 0) (pa_cons (pv 1) pa_nil))) pe_int (nomark _)) (pw_or1 (pt_cmpR op_lt (pe_df D_sign_towards (hr.mono (by decide)) (by rfl) (pa_cons (pv 0) (pa_cons (pv 2) pa_nil))) pe_int (nomark _))))) (pss_one (ps_ret pe_bl)) pss_nil)
      (pss_cons (ps_asg (pv 0) (pg_tup rfl (pgs_cons (pg_name (i := 3) sc_never_below.nd rfl (.inl rfl)) (pgs_cons (pg_name (i := 4) sc_never_below.nd rfl (.inl rfl)) (pgs_cons (pg_name (i := 5) sc_never_below.nd rfl (.inl rfl)) pgs_nil)))))
      (pss_cons (ps_if (PW.pt (pw_or (pt_cmpR op_le (pv 3) pe_int (nomark _)) (pw_or (pt_cmpR op_ge (pv 4) pe_int (nomark _)) (pw_or1 (pt_cmpR op_le (pe_op op_mulX (pv 4) (pv 4)) (pe_op op_mulX (pe_op op_mul pe_int (pv 3)) (pv 5)) (nomark _)))))) (pss_one (ps_ret pe_bl)) pss_nil)
      (pss_cons (ps_set (i := 6) sc_never_below.nd rfl (.inl rfl) (pe_tup (pa_cons (pe_un un_neg (pv 4)) (pa_cons (pe_op op_mul pe_int (pv 3)) pa_nil))))
      (pss_one (ps_ret (pe_cmpR op_eq (pe_df D_pair_order (hr.mono (by decide)) (by rfl) (pa_cons (pv 1) (pa_cons (pv 6) pa_nil))) (pe_df D_limit_beside (hr.mono (by decide)) (by rfl) (pa_cons (pv 2) (pa_cons (pv 6) pa_nil))) (nomark _)))))))), ?_⟩
    have kF : ¬ (¬ (W < 0 ∨ farS S L W < 0) ∧ (S ≤ 0 ∨ L ≥ 0 ∨ L * L ≤ 4 * S * W)) → ∀ H', Same H H' → Q (.bl false) H' := fun h H' s' => by
      have z := k _ s'
      unfold nbB at z
      rw [decide_eq_false h] at z
      exact z
    have kT : (¬ (W < 0 ∨ farS S L W < 0) ∧ (S ≤ 0 ∨ L ≥ 0 ∨ L * L ≤ 4 * S * W)) → ∀ H', Same H H' → Q (.bl true) H' := fun h H' s' => by
      have z := k _ s'
      unfold nbB at z
      rw [decide_eq_true h] at z
      exact z
    refine ⟨_, rfl, _, rfl, z, p, S, L, W, (0, 1), rfl, hz, SqT.of hp, by decide, sS, sL, sW, by unfold Sm; decide, by unfold Sm; decide, _, _, rfl, rfl, _, rfl, ite2 (fun e => iteT ?_) (fun e => ?_)⟩
    · have e0 := of_decide_eq_true e
      rw [qv_01, sgn_lt] at e0
      exact kF (fun z => z.1 (.inl e0)) _ (Same.refl _)
    have w0 : ¬ W < 0 := fun z => e (decide_eq_true (by rw [qv_01, sgn_lt]; exact z))
    clear e
    refine ⟨_, rfl, _, rfl, z, S, L, W, rfl, hz, _, _, rfl, rfl, _, rfl, ite2 (fun e => ?_) (fun e => ?_)⟩
    · exact kF (fun z => z.1 (.inr (of_decide_eq_true e))) _ (Same.refl _)
    have f0 : ¬ farS S L W < 0 := fun z => e (decide_eq_true z)
    clear e
    refine ⟨_, rfl, z, _, rfl, SqT.of hz, rfl, _, _, rfl, _, _, rfl, _, _, rfl, rfl, ?_⟩
    have wf : ¬ (W < 0 ∨ farS S L W < 0) := fun z => z.elim w0 f0
    refine ⟨_, rfl, _, _, rfl, rfl, _, rfl, ite2 (fun e => iteT (kT ⟨wf, .inl (of_decide_eq_true e)⟩ _ (Same.refl _))) (fun e => ?_)⟩
    have s0 : ¬ S ≤ 0 := fun z => e (decide_eq_true z)
    clear e
    refine ⟨_, rfl, _, _, rfl, rfl, _, rfl, ite2 (fun e => iteT (kT ⟨wf, .inr (.inl (of_decide_eq_true e))⟩ _ (Same.refl _))) (fun e => ?_)⟩
    have l0 : ¬ L ≥ 0 := fun z => e (decide_eq_true z)
    clear e
    have four : Sm 3 4 := by unfold Sm; decide
    refine ⟨_, rfl, _, rfl, _, _, rfl, rfl, mx sL sL, _, rfl, _, _, rfl, rfl, .inl ⟨by decide, by decide⟩, _, rfl, _, _, rfl, rfl, mx (four.mul sS) sW, _, _, rfl, rfl, _, rfl, ite2 (fun e => kT ⟨wf, .inr (.inr (of_decide_eq_true e))⟩ _ (Same.refl _)) (fun e => ?_)⟩
    have q0 : ¬ L * L ≤ 4 * S * W := fun z => e (decide_eq_true z)
    clear e
    have two : Sm 2 2 := by unfold Sm; decide
    refine ⟨_, rfl, _, rfl, _, rfl, _, _, rfl, rfl, .inl ⟨by decide, by decide⟩, (by show 2 ≤ sizeLine; decide), fun q nq => ?_⟩
    have sq := same_upd (o := .tup [.int (-L), .int (2 * S)]) nq
    have hq : PairAt (upd H q (.tup [.int (-L), .int (2 * S)])) q (-L, 2 * S) := upd_same
    refine ⟨_, rfl, _, rfl, p, q, (0, 1), (-L, 2 * S), rfl, SqT.of (sq _ _ hp), SqT.of hq, by unfold Sm; decide, by unfold Sm; decide, (sL.neg).mono (by decide), (two.mul sS).mono (by decide), ?_⟩
    refine ⟨_, rfl, _, rfl, q, (-L, 2 * S), rfl, SqT.of hq, (sL.neg).mono (by decide), (two.mul sS).mono (by decide), ?_⟩
    have e1 : sgn ((0 : Int) * (2 * S) - -L * 1) = -1 := by
      unfold sgn
      rw [if_neg (by omega), if_pos (by omega)]
    have e2 : sgn ((1 : Int) * (2 * S) - -L * 0) = 1 := by
      unfold sgn
      rw [if_pos (by omega)]
    refine ⟨rfl, ?_⟩
    show Q (.bl (decide (V.int (sgn ((0 : Int) * (2 * S) - -L * 1)) = V.int (sgn ((1 : Int) * (2 * S) - -L * 0))))) _
    rw [e1, e2]
    exact kF (fun z => z.2.elim s0 fun z => z.elim l0 q0) _ sq
end
end RL

set_option maxHeartbeats 4000000
namespace RL
open PySem L2 PySem.Spec PyProof.Rows
/-! ### never, more: the checker -/
def nmB (r m : PyData) : Bool := nbB (qS (matR (rowOf m)) (matR (rowOf r))) (qL (matR (rowOf m)) (matR (rowOf r))) (qW (matR (rowOf m)) (matR (rowOf r)))
def nevB : List PyData → PyData → Bool
  | [r, m], e => emptyG e && (rowG r && (rowG m && nmB r m))
  | _, _ => false
def mreE (r m l : PyData) : Bool := decide (0 < sg (((matR (rowOf r)).app (prOf l)).1 * ((matR (rowOf m)).app (prOf l)).2 - ((matR (rowOf m)).app (prOf l)).1 * ((matR (rowOf r)).app (prOf l)).2))
def mreB : List PyData → PyData → Bool
  | [r, m, l], e => emptyG e && (rowG r && (rowG m && (numG l && mreE r m l)))
  | _, _ => false
def spCkB2 (f : List PyData → PyData → Bool) : Sp := fun vs H Q _ => ∃ (t : Addr) (ys : List V) (ds : List PyData) (u : V) (e : PyData), vs = [.ref t, u] ∧ H t = some (.tup ys) ∧ Drs H ys ds ∧ (∀ d ∈ ds, PlOk d) ∧ Dr H u e ∧ PlOk e ∧ ∀ H', Same H H' → Q (.bl (f ds e)) H'
theorem q_sm {m n : Mx} (hm : MxSm 30 m) (hn : MxSm 30 n) : Sm 70 (qS m n) ∧ Sm 70 (qL m n) ∧ Sm 70 (qW m n) := by
  obtain ⟨a, b, c, d⟩ := hm
  obtain ⟨a', b', c', d'⟩ := hn
  exact ⟨((a.mul c').sub (a'.mul c)).mono (by decide), ((((a.mul d').add (b.mul c')).sub ((a'.mul d).mono (by decide))).sub ((b'.mul c).mono (by decide))).mono (by decide), ((b.mul d').sub (b'.mul d)).mono (by decide)⟩
section
variable {P : Program} {w : World} {K : PySem.W.Frag} {mg : Str → Option Value} {base : Heap} {tG t1 t3 tC tK : Tok} {aO aW aCh : Addr}
abbrev s_check_more : Stmt := top 96
theorem sc_check_more : FnScope ["places", "certificate", "row", "other_row", "load", "pair"] ["places", "certificate"] (defScope s_check_more) := ⟨rfl, rfl, rfl, by decide +kernel, rfl, by decide +kernel, by decide +kernel⟩

end
end RL

set_option maxHeartbeats 4000000
namespace RL
open PySem L2 PySem.Spec PyProof.Rows
/-! ### never: the law -/
def nvL (S L W : Int) : Bool := decide (0 ≤ S) && (decide (0 ≤ W) && (decide (0 ≤ L) || decide (L * L ≤ 4 * S * W)))
theorem nv_nb (S L W : Int) : nvL S L W = nbB S L W := by
  unfold nvL nbB
  rw [Bool.eq_iff_iff]
  simp only [Bool.and_eq_true, Bool.or_eq_true, decide_eq_true_eq, far_lt]
  constructor
  · rintro ⟨s0, w0, h⟩
    refine ⟨?_, ?_⟩
    · rintro (h1 | h1 | ⟨h1, h2⟩)
      · omega
      · omega
      · rcases h2 with h2 | ⟨h2, h3⟩
        · rcases h with h | h
          · omega
          · rw [h1, Int.mul_zero, Int.zero_mul] at h
            have := Int.mul_pos_of_neg_of_neg h2 h2
            omega
        · omega
    · rcases h with h | h
      · exact .inr (.inl h)
      · exact .inr (.inr h)
  · rintro ⟨h1, h2⟩
    have w0 : 0 ≤ W := by
      rcases Int.lt_or_le W 0 with h | h
      · exact absurd (.inl h) h1
      · exact h
    have s0 : 0 ≤ S := by
      rcases Int.lt_or_le S 0 with h | h
      · exact absurd (.inr (.inl h)) h1
      · exact h
    refine ⟨s0, w0, ?_⟩
    rcases h2 with h | h | h
    · left
      have : S = 0 := by omega
      rcases Int.lt_or_le L 0 with g | g
      · exact absurd (.inr (.inr ⟨this, .inl g⟩)) h1
      · exact g
    · exact .inl h
    · exact .inr h
def spLNev : Sp := fun vs H Q _ => ∃ (v u : V) (r m : List Pc), vs = [v, u] ∧ RowT H v r ∧ RowT H u m ∧ ∀ H', Same H H' → Q (.bl (nbB (qS (matR m) (matR r)) (qL (matR m) (matR r)) (qW (matR m) (matR r)))) H'
theorem act_10 (r : List Pc) : actR r (1, 0) = ((matR r).a, (matR r).c) := by
  rw [← mat_app]
  unfold Mx.app
  ext <;> simp
theorem act_01 (r : List Pc) : actR r (0, 1) = ((matR r).b, (matR r).d) := by
  rw [← mat_app]
  unfold Mx.app
  ext <;> simp
theorem lit_pair {H H' : Hp} {v : V} {a b : Int} (h : Dn H H' v (.tuple [.int a, .int b])) : ∃ p, v = .ref p ∧ PairAt H' p (a, b) := by
  obtain ⟨p0, us, rfl, hp0, hus⟩ := Dr.tuple h
  obtain ⟨rfl⟩ : us = [.int a, .int b] := by
    match us, hus with
    | [x, y], hus =>
      have h1 := hus.inv.1.toInt
      have h2 := hus.inv.2.inv.1.toInt
      rw [h1, h2]
    | [], hus => exact absurd hus.1 (by simp)
    | [_], hus => exact absurd hus.1 (by simp)
    | _ :: _ :: _ :: _, hus => exact absurd hus.1 (by simp)
  exact ⟨p0, rfl, (fresh_get hp0).2⟩
section
variable {P : Program} {w : World} {K : PySem.W.Frag} {mg : Str → Option Value} {base : Heap} {tG t1 t3 tC tK : Tok} {aO aW aCh : Addr}
abbrev s_law_never : Stmt := top 121
theorem sc_law_never : FnScope ["_law_row", "_law_mate", "_law_a", "_law_c", "_law_b", "_law_d", "_law_p", "_law_r", "_law_q", "_law_s", "_law_lead", "_law_end", "_law_mid"] ["_law_row", "_law_mate"] (defScope s_law_never) := ⟨rfl, rfl, rfl, by decide +kernel, rfl, by decide +kernel, by decide +kernel⟩

theorem ok_lnev {f : Addr} {fd : FuncData} (F : Fun K "_law_never" "_law_never" s_law_never f fd) (D_law_led : Df P w K mg base 1 "_law_led" ["_law_row", "_law_pair"] spLed) : FnOk P w K mg base CX0 2 f fd ["_law_row", "_law_mate"] spLNev := by
  refine F.ok sc_law_never (fun vs H Q E h => ?_) (fun cdv A outer s H vs Q E hr h => ?_)
  · obtain ⟨v, u, r, m, rfl, _⟩ := h
    rfl
  · obtain ⟨v, u, r, m, rfl, hrow, hmrow, k⟩ := h
    refine ⟨_, (pss_cons (ps_asg (pe_df D_law_led (hr.mono (by decide)) (by rfl) (pa_cons (pv 0) (pa_cons (pd_tup (pds_cons pd_int (pds_cons pd_int pds_nil))) pa_nil))) (pg_tup rfl (pgs_cons (pg_name (i := 2) sc_law_never.nd rfl (.inl rfl)) (pgs_cons (pg_name (i := 3) sc_law_never.nd rfl (.inl rfl)) pgs_nil))))
      (pss_cons (ps_asg (pe_df D_law_led (hr.mono (by decide)) (by rfl) (pa_cons (pv 0) (pa_cons (pd_tup (pds_cons pd_int (pds_cons pd_int pds_nil))) pa_nil))) (pg_tup rfl (pgs_cons (pg_name (i := 4) sc_law_never.nd rfl (.inl rfl)) (pgs_cons (pg_name (i := 5) sc_law_never.nd rfl (.inl rfl)) pgs_nil))))
      (pss_cons (ps_asg (pe_df D_law_led (hr.mono (by decide)) (by rfl) (pa_cons (pv 1) (pa_cons (pd_tup (pds_cons pd_int (pds_cons pd_int pds_nil))) pa_nil))) (pg_tup rfl (pgs_cons (pg_name (i := 6) sc_law_never.nd rfl (.inl rfl)) (pgs_cons (pg_name (i := 7) sc_law_never.nd rfl (.inl rfl)) pgs_nil))))
      (pss_cons (ps_asg (pe_df D_law_led (hr.mono (by decide)) (by rfl) (pa_cons (pv 1) (pa_cons (pd_tup (pds_cons pd_int (pds_cons pd_int pds_nil))) pa_nil))) (pg_tup rfl (pgs_cons (pg_name (i := 8) sc_law_never.nd rfl (.inl rfl)) (pgs_cons (pg_name (i := 9) sc_law_never.nd rfl (.inl rfl)) pgs_nil))))
      (pss_cons (ps_par (by rfl) sc_law_never.nd (i := 10) (j := 11) rfl rfl (by decide) rfl rfl (pa_cons (pe_op op_sub (pe_op op_mulX (pv 6) (pv 3)) (pe_op op_mulX (pv 2) (pv 7))) (pa_cons (pe_op op_sub (pe_op op_mulX (pv 8) (pv 5)) (pe_op op_mulX (pv 4) (pv 9))) pa_nil)) (by rfl))
      (pss_cons (ps_set (i := 12) sc_law_never.nd rfl (.inl rfl) (pe_op op_sub (pe_op op_sub (pe_op op_add (pe_op op_mulX (pv 6) (pv 5)) (pe_op op_mulX (pv 8) (pv 3))) (pe_op op_mulX (pv 2) (pv 9))) (pe_op op_mulX (pv 4) (pv 7))))
      (pss_one (ps_ret (pe_and (pe_cmpR op_ge (pv 10) pe_int (nomark _)) (pe_and (pe_cmpR op_ge (pv 11) pe_int (nomark _)) (pe_one (pe_or (pe_cmpR op_ge (pv 12) pe_int (nomark _)) (pe_one (pe_cmpR op_le (pe_op op_mulX (pv 12) (pv 12)) (pe_op op_mulX (pe_op op_mul pe_int (pv 10)) (pv 11)) (nomark _))))))))))))))), ?_⟩
    obtain ⟨_, _, _, _, _, hok, _, l8⟩ := id hrow
    obtain ⟨_, _, _, _, _, hok2, _, l82⟩ := id hmrow
    have mr := matR_sm30 hok l8
    have mm := matR_sm30 hok2 l82
    have o1 : Sm 3900 1 := by unfold Sm; decide +kernel
    have o0 : Sm 3900 0 := by unfold Sm; decide +kernel
    refine ⟨_, rfl, ?_⟩
    intro H1 v1 s1 h1
    obtain ⟨p1, rfl, hp1⟩ := lit_pair h1
    refine ⟨v, p1, r, (1, 0), rfl, hrow.same s1, hp1, o1, o0, fun H2 q2 s2 nq2 hq2 => ?_⟩
    rw [act_10] at hq2
    have sA := s1.trans s2
    refine ⟨q2, _, rfl, SqT.of hq2, rfl, _, _, rfl, _, _, rfl, rfl, ?_⟩
    refine ⟨_, rfl, ?_⟩
    intro H3 v3 s3 h3
    obtain ⟨p3, rfl, hp3⟩ := lit_pair h3
    refine ⟨v, p3, r, (0, 1), rfl, hrow.same (sA.trans s3), hp3, o0, o1, fun H4 q4 s4 nq4 hq4 => ?_⟩
    rw [act_01] at hq4
    have sB := (sA.trans s3).trans s4
    refine ⟨q4, _, rfl, SqT.of hq4, rfl, _, _, rfl, _, _, rfl, rfl, ?_⟩
    refine ⟨_, rfl, ?_⟩
    intro H5 v5 s5 h5
    obtain ⟨p5, rfl, hp5⟩ := lit_pair h5
    refine ⟨u, p5, m, (1, 0), rfl, hmrow.same (sB.trans s5), hp5, o1, o0, fun H6 q6 s6 nq6 hq6 => ?_⟩
    rw [act_10] at hq6
    have sC := (sB.trans s5).trans s6
    refine ⟨q6, _, rfl, SqT.of hq6, rfl, _, _, rfl, _, _, rfl, rfl, ?_⟩
    refine ⟨_, rfl, ?_⟩
    intro H7 v7 s7 h7
    obtain ⟨p7, rfl, hp7⟩ := lit_pair h7
    refine ⟨u, p7, m, (0, 1), rfl, hmrow.same (sC.trans s7), hp7, o0, o1, fun H8 q8 s8 nq8 hq8 => ?_⟩
    rw [act_01] at hq8
    have sD := (sC.trans s7).trans s8
    refine ⟨q8, _, rfl, SqT.of hq8, rfl, _, _, rfl, _, _, rfl, rfl, ?_⟩
    have k := k _ sD
    obtain ⟨z1, z2, z3⟩ := q_sm mm mr
    rw [← nv_nb] at k
    obtain ⟨a, b, c, d⟩ := mm
    obtain ⟨a', b', c', d'⟩ := mr
    unfold qS qL qW at *
    generalize (matR r).a = ra at *
    generalize (matR r).b = rb at *
    generalize (matR r).c = rc at *
    generalize (matR r).d = rd at *
    generalize (matR m).a = ma at *
    generalize (matR m).b = mb at *
    generalize (matR m).c = mc at *
    generalize (matR m).d = md at *
    refine ⟨_, rfl, _, rfl, _, _, rfl, rfl, mx a c', _, rfl, _, rfl, _, _, rfl, rfl, mx a' c, _, _, rfl, rfl, ?_⟩
    refine ⟨_, rfl, _, rfl, _, _, rfl, rfl, mx b d', _, rfl, _, rfl, _, _, rfl, rfl, mx b' d, _, _, rfl, rfl, ?_⟩
    refine ⟨_, _, rfl, ?_⟩
    refine ⟨_, rfl, _, rfl, _, _, rfl, rfl, mx a d', _, rfl, _, rfl, _, _, rfl, rfl, mx b c', _, _, rfl, rfl, _, rfl, _, rfl, _, _, rfl, rfl, mx a' d, _, _, rfl, rfl, _, rfl, _, rfl, _, _, rfl, rfl, mx b' c, _, _, rfl, rfl, ?_⟩
    unfold nvL at k
    dsimp only
    generalize hS : ma * rc - ra * mc = S at *
    generalize hW : mb * rd - rb * md = W at *
    generalize hL : ma * rd + mb * rc - ra * md - rb * mc = L at *
    have four : Sm 3 4 := by unfold Sm; decide
    refine ⟨_, rfl, _, _, rfl, rfl, _, rfl, ite2 (fun g1 => ?_) (fun g1 => ?_)⟩
    · rw [show decide (0 ≤ S) = true from g1, Bool.true_and] at k
      refine ⟨_, rfl, _, _, rfl, rfl, _, rfl, ite2 (fun g2 => ?_) (fun g2 => ?_)⟩
      · rw [show decide (0 ≤ W) = true from g2, Bool.true_and] at k
        refine ⟨_, rfl, _, _, rfl, rfl, _, rfl, ite2 (fun g3 => ?_) (fun g3 => ?_)⟩
        · rw [show decide (0 ≤ L) = true from g3, Bool.true_or] at k
          exact k
        · rw [show decide (0 ≤ L) = false from Bool.eq_false_iff.mpr g3, Bool.false_or] at k
          exact ⟨_, rfl, _, rfl, _, _, rfl, rfl, mx z2 z2, _, rfl, _, _, rfl, rfl, .inl ⟨by decide, by decide⟩, _, rfl, _, _, rfl, rfl, mx (four.mul z1) z3, _, _, rfl, rfl, k⟩
      · rw [show decide (0 ≤ W) = false from Bool.eq_false_iff.mpr g2, Bool.false_and] at k
        exact k
    · rw [show decide (0 ≤ S) = false from Bool.eq_false_iff.mpr g1, Bool.false_and] at k
      exact k
end
end RL

set_option maxHeartbeats 4000000
namespace RL
open PySem L2 PySem.Spec PyProof.Rows
/-! ### the law's own root -/
theorem dbl {g w : Int} (h : 0 ≤ w) (l : g * g ≤ w) : g ≤ w := by
  rcases Int.lt_or_le w g with z | z
  · have : g * 1 ≤ g * g := Int.mul_le_mul_of_nonneg_left (by omega) (by omega)
    omega
  · exact z
def spIsq : Sp := fun vs H Q _ => ∃ n : Int, vs = [.int n] ∧ 0 ≤ n ∧ Sm 3900 n ∧ ∀ H' g, Same H H' → 0 ≤ g → g * g ≤ n → n < (g + 1) * (g + 1) → Q (.int g) H'
section
variable {P : Program} {w : World} {K : PySem.W.Frag} {mg : Str → Option Value} {base : Heap} {tG t1 t3 tC tK : Tok} {aO aW aCh : Addr}
abbrev s_law_isqrt : Stmt := top 122
theorem sc_law_isqrt : FnScope ["_law_number", "_law_root", "_law_part"] ["_law_number"] (defScope s_law_isqrt) := ⟨rfl, rfl, rfl, by decide +kernel, rfl, by decide +kernel, by decide +kernel⟩

theorem ok_isq {f : Addr} {fd : FuncData} (F : Fun K "_law_isqrt" "_law_isqrt" s_law_isqrt f fd) : FnOk P w K mg base CX0 1 f fd ["_law_number"] spIsq := by
  refine F.ok sc_law_isqrt (fun vs H Q E h => ?_) (fun cdv A outer s H vs Q E hr h => ?_)
  · obtain ⟨n, rfl, _⟩ := h
    rfl
  · obtain ⟨n, rfl, n0, ns, k⟩ := h
    refine ⟨_, (pss_cons (ps_asg (pe_tup (pa_cons pe_int (pa_cons pe_int pa_nil))) (pg_tup rfl (pgs_cons (pg_name (i := 1) sc_law_isqrt.nd rfl (.inl rfl)) (pgs_cons (pg_name (i := 2) sc_law_isqrt.nd rfl (.inl rfl)) pgs_nil))))
      (pss_cons (ps_while PassesOwn.never (pt_cmpR op_le (pe_op op_mulX (pv 2) (pv 2)) (pv 0) (nomark _)) (pss_one (ps_set (i := 2) sc_law_isqrt.nd rfl (.inl rfl) (pe_op op_mul pe_int (pv 2)))))
      (pss_cons (ps_while PassesOwn.never (pt_cmpR op_gt (pv 2) pe_int (nomark _)) (pss_cons (ps_if (pt_cmpR op_le (pe_op op_mulX (pe_op op_add (pv 1) (pv 2)) (pe_op op_add (pv 1) (pv 2))) (pv 0) (nomark _)) (pss_one (ps_set (i := 1) sc_law_isqrt.nd rfl (.inl rfl) (pe_op op_add (pv 1) (pv 2)))) pss_nil)
      (pss_one (ps_set (i := 2) sc_law_isqrt.nd rfl (.inl rfl) (pe_op op_fdivW (pv 2) pe_int)))))
      (pss_one (ps_ret (pv 1)))))), ?_⟩
    refine ⟨(by show 2 ≤ sizeLine; decide), fun p hp => ⟨p, _, rfl, SqT.of upd_same, rfl, _, _, rfl, _, _, rfl, rfl, ?_⟩⟩
    have sm : Same H (upd H p (.tup [.int 0, .int 1])) := same_upd hp
    have two : Sm 2 2 := by unfold Sm; decide
    refine while_by (fun σ H' => H' = upd H p (.tup [.int 0, .int 1]) ∧ ∃ o : Int, σ = [some (.int n), some (.int 0), some (.int o)] ∧ (∃ q : Nat, o = 2 ^ q) ∧ 1 ≤ o ∧ o ≤ 2 * n + 1 ∧ Sm 4002 o) (fun σ _ => match σ with | [_, _, some (.int o)] => (2 * n + 2 - o).toNat | _ => 0) ⟨rfl, 1, rfl, ⟨0, rfl⟩, by decide, by omega, ?_⟩ ?_ ?_
    · unfold Sm
      exact Nat.lt_of_lt_of_le (by decide : (1 : Int).natAbs < 2 ^ 1) (Nat.pow_le_pow_right (by decide) (by decide))
    · rintro σ H' ⟨rfl, o, rfl, ⟨q, hq⟩, o1, o2, os⟩
      refine ⟨_, rfl, _, rfl, _, _, rfl, rfl, mx os os, _, rfl, _, _, rfl, rfl, _, rfl, ite2 (fun e => ?_) (fun e => ?_)⟩
      · have e0 : o * o ≤ n := of_decide_eq_true e
        have e1 := dbl n0 e0
        refine ⟨_, rfl, _, _, rfl, rfl, .inl ⟨by decide, by decide⟩, ⟨rfl, _, rfl, ⟨q + 1, by rw [hq, Int.pow_succ, Int.mul_comm]⟩, by omega, by omega, ?_⟩, ?_⟩
        · have s1 : Sm 3900 o := ns.of (by omega) e1
          exact (two.mul s1).mono (by decide)
        · show (2 * n + 2 - 2 * o).toNat < (2 * n + 2 - o).toNat
          omega
      · have e0 : ¬ o * o ≤ n := fun z => e (decide_eq_true z)
        refine while_by (fun σ H' => H' = upd H p (.tup [.int 0, .int 1]) ∧ ∃ l o : Int, σ = [some (.int n), some (.int l), some (.int o)] ∧ 0 ≤ l ∧ l * l ≤ n ∧ Sm 4002 o ∧ ((o = 0 ∧ n < (l + 1) * (l + 1)) ∨ ((∃ q : Nat, o = 2 ^ q) ∧ 1 ≤ o ∧ n < (l + 2 * o) * (l + 2 * o)))) (fun σ _ => match σ with | [_, _, some (.int o)] => o.toNat | _ => 0) ⟨rfl, 0, o, rfl, by decide, by omega, os, .inr ⟨⟨q, hq⟩, o1, ?_⟩⟩ ?_ ?_
        · rw [Int.zero_add]
          have : o * o ≤ 2 * o * (2 * o) := Int.mul_le_mul (by omega) (by omega) (by omega) (by omega)
          omega
        · rintro σ H' ⟨rfl, l, o, rfl, l0, hl, os, ho⟩
          have lsm : Sm 3900 l := ns.of (by omega) (dbl n0 hl)
          refine ⟨_, rfl, _, _, rfl, rfl, _, rfl, ite2 (fun e => ?_) (fun e => ?_)⟩
          · have e0 : 0 < o := of_decide_eq_true e
            rcases ho with ⟨z, _⟩ | ⟨⟨q, hq⟩, o1, hn⟩
            · omega
            have so : Sm 4003 (l + o) := ((lsm.mono (by decide)).add os)
            -- what is left is half as much
            have half : ∀ g : Int, 0 ≤ g → g * g ≤ n → n < (g + o) * (g + o) → ((0 ≤ g ∧ g * g ≤ n ∧ Sm 4002 (o / 2) ∧ ((o / 2 = 0 ∧ n < (g + 1) * (g + 1)) ∨ ((∃ q : Nat, o / 2 = 2 ^ q) ∧ 1 ≤ o / 2 ∧ n < (g + 2 * (o / 2)) * (g + 2 * (o / 2))))) ∧ (o / 2).toNat < o.toNat) := fun g g0 hg hgo => by
              refine ⟨⟨g0, hg, os.of (by omega) (by omega), ?_⟩, by omega⟩
              cases q with
              | zero =>
                have : o = 1 := hq
                subst this
                exact .inl ⟨by decide, hgo⟩
              | succ q =>
                have h2 : o = 2 * 2 ^ q := by rw [hq, Int.pow_succ, Int.mul_comm]
                have h3 : o / 2 = 2 ^ q := by omega
                refine .inr ⟨⟨q, h3⟩, by omega, ?_⟩
                have : 2 * (o / 2) = o := by omega
                rw [this]
                exact hgo
            refine ⟨_, rfl, _, rfl, _, _, rfl, rfl, _, rfl, _, rfl, _, _, rfl, rfl, _, _, rfl, rfl, mx so so, _, rfl, _, _, rfl, rfl, _, rfl, ite2 (fun e3 => ?_) (fun e3 => ?_)⟩
            · have e4 : (l + o) * (l + o) ≤ n := of_decide_eq_true e3
              obtain ⟨a, b⟩ := half (l + o) (by omega) e4 (by rw [show l + o + o = l + 2 * o by omega]; exact hn)
              refine ⟨_, rfl, _, rfl, _, _, rfl, rfl, ?_⟩
              refine ⟨_, rfl, _, _, rfl, rfl, dvw (b := 3) (by decide) (by unfold Sm; decide), ⟨rfl, _, _, rfl, a⟩, b⟩
            · have e4 : ¬ (l + o) * (l + o) ≤ n := fun z => e3 (decide_eq_true z)
              obtain ⟨a, b⟩ := half l l0 hl (by omega)
              refine ⟨_, rfl, _, _, rfl, rfl, dvw (b := 3) (by decide) (by unfold Sm; decide), ⟨rfl, _, _, rfl, a⟩, b⟩
          · have e0 : ¬ 0 < o := fun z => e (decide_eq_true z)
            rcases ho with ⟨z, hn⟩ | ⟨_, o1, _⟩
            · exact ⟨_, rfl, k _ l sm l0 hl hn⟩
            · omega
        · rintro σ H' Q1 Q2 hq h
          obtain ⟨v, e1, i, j, e2, e3, z⟩ := h
          exact ⟨v, e1, i, j, e2, e3, z.imp fun k z => ⟨z.1, hq _ _ z.2⟩⟩
    · rintro σ H' Q1 Q2 hq h
      obtain ⟨v, e1, v2, e2, i, j, e3, e4, cm, v3, e5, i2, j2, e6, e7, z⟩ := h
      exact ⟨v, e1, v2, e2, i, j, e3, e4, cm, v3, e5, i2, j2, e6, e7, z.imp fun k z => ⟨z.1, hq _ _ z.2⟩⟩
end
end RL

set_option maxHeartbeats 4000000
namespace RL
open PySem L2 PySem.Spec PyProof.Rows
structure TxtX (K : PySem.W.Frag) (mg : Str → Option Value) (w : World) (tG t1 t3 tC tK tP : Tok) (aO aW aCh Ce : Addr) : Prop extends TxtA K mg w tG t1 t3 tC tK aO aW aCh where
  mgP : mg "GREATEST_PART" = some (.int 10000000000000000000000000000000000000000 tP)
  mgE : mg "Exact" = some (.ref Ce)
  clE : Cls K Ce
  nP : NoAttr K Ce "parts"
def spRoot : Sp := fun vs H Q _ => ∃ n : Int, vs = [.int n] ∧ 0 ≤ n ∧ Sm 4000 n ∧ ∀ H', Same H H' → Q (.int (rt n)) H'
def spUnder : Sp := fun vs H Q _ => ∃ s l w : Int, vs = [.int s, .int l, .int w] ∧ Sm 1000 s ∧ Sm 1000 l ∧ Sm 1000 w ∧ Q (.int (l * l + 4 * s * w)) H
def spEqF : Sp := fun vs H Q _ => ∃ (t b : Int), vs = [.int t, .int b] ∧ Pos2 (t, b) ∧ Sm 4000 t ∧ Sm 4000 b ∧
  ∀ H' p, Same H H' → H p = none → H' p = some (.tup [.int 0, .int (b / gc t b), .int (t / gc t b)]) → Q (.ref p) H'
def spSimp : Sp := fun vs H Q _ => ∃ a b c : Int, vs = [.int a, .int b, .int c] ∧ Good a b c ∧ Sm 133 a ∧ Sm 133 b ∧ Sm 133 c ∧
  ∀ H' p, Same H H' → H p = none → H' p = some (.tup [.int (parts a b c).1, .int (parts a b c).2.1, .int (parts a b c).2.2]) → Q (.ref p) H'
def ExAt (C : Addr) (H : Hp) (x : Addr) (s l w : Int) : Prop := ∃ dx p : Addr, H x = some (.ins C dx [("parts", .ref p)]) ∧ H p = some (.tup [.int s, .int l, .int w])
def Big (a b c : Int) : Prop := Good a b c ∧ a ≤ 10000000000000000000000000000000000000000 ∧ -10000000000000000000000000000000000000000 ≤ b ∧ b ≤ 10000000000000000000000000000000000000000 ∧ c ≤ 10000000000000000000000000000000000000000
theorem Big.sm {a b c : Int} (h : Big a b c) : Sm 133 a ∧ Sm 133 b ∧ Sm 133 c := by
  obtain ⟨g, h1, h2, h3, h4⟩ := h
  have e : (10 : Int) ^ 40 = 10000000000000000000000000000000000000000 := by decide
  have a0 : 0 ≤ a ∧ 0 ≤ c := by
    rcases g with g | g <;> omega
  exact ⟨sm40 (by omega) (by omega), sm40 (by omega) (by omega), sm40 (by omega) (by omega)⟩
def spInit (C : Addr) : Sp := fun vs H Q _ => ∃ (x dx : Addr) (a b c : Int), vs = [.ref x, .int a, .int b, .int c] ∧ H x = some (.ins C dx []) ∧ Big a b c ∧
  ∀ H' : Hp, But x H H' → ExAt C H' x (parts a b c).1 (parts a b c).2.1 (parts a b c).2.2 → Q .non H'
def spEqn (C : Addr) : Sp := fun vs H Q _ => ∃ (x dx p : Addr), vs = [.ref x] ∧ H x = some (.ins C dx [("parts", .ref p)]) ∧ Q (.ref p) H
/-! ### a new Exact, by position and by keywords -/
structure ExD (P : Program) (w : World) (K : PySem.W.Frag) (mg : Str → Option Value) (base : Heap) (C : Addr) : Prop where
  ex : ∃ (fI : Addr) (fdI : FuncData), Mk K C fI ∧ FnOk P w K mg base CX0 5 fI fdI ["self", "square", "line", "whole"] (spInit C) ∧ Binds K fdI ["self", "square", "line", "whole"] []
theorem pe_exact {X : Cx} {C : Addr} {p pos : Pos} {e : Expr} {es : List Expr} {t : TA} (D : ExD X.prog X.w X.K X.mg X.base C) (hr : Room 6 X.A) (hg : Gl X "Exact") (hm : X.mg "Exact" = some (.ref C))
    (ha : PA X (e :: es) t) (he : starEach (e :: es) X.env = (false, eval e X.env) :: starEach es X.env := by rfl) (hpl : (backTo pos (starEach es X.env)).any (·.1) = false := by rfl) :
    PE X (.Call (.Name "Exact" p) (e :: es) [] pos) (tMake C (spInit C) [] E0 t) := by
  obtain ⟨fI, fdI, M, G, hb⟩ := D.ex
  exact pe_make M G hr hg hm hb .nil pass0 ha (by decide) he hpl
theorem ExAt.same {C x : Addr} {H H' : Hp} {s l w : Int} (h : ExAt C H x s l w) (sm : Same H H') : ExAt C H' x s l w := by
  obtain ⟨dx, p, a, b⟩ := h
  exact ⟨dx, p, sm _ _ a, sm _ _ b⟩
def LimAt (aO Ce : Addr) (H : Hp) (v : V) (r : List Pc) : Prop := ((matR r).c = 0 ∧ v = .ref aO) ∨ ((matR r).c ≠ 0 ∧ ∃ x, v = .ref x ∧ ExAt Ce H x (eqL r).1 (eqL r).2.1 (eqL r).2.2)
def spLim (aO Ce : Addr) : Sp := fun vs H Q _ => ∃ (a : Addr) (r : List Pc), vs = [.ref a] ∧ H a = some (.tup (MatT (matR r))) ∧ RowOk r ∧ r.length ≤ 8 ∧ ∀ H' v, Same H H' → LimAt aO Ce H' v r → Q v H'
def spEqT (Ce : Addr) : Sp := fun vs H Q _ => ∃ (x p dx : Addr) (fs : List (Str × V)) (e : Int × Int), vs = [.ref x, .ref p] ∧ H x = some (.ins Ce dx fs) ∧ PairAt H p e ∧ Q (.bl false) H
theorem parts010 : parts 0 1 0 = (0, 1, 0) := by decide
theorem make_lim {aO Ce : Addr} {H : Hp} {r : List Pc} {a b c : Int} {Q : V → Hp → Prop} (hB : Big a b c) (hc : (matR r).c ≠ 0) (he : eqL r = parts a b c) (k : ∀ H' v, Same H H' → LimAt aO Ce H' v r → Q v H') :
    ∀ z dz, H z = none → H dz = none → dz ≠ z → spInit Ce [.ref z, .int a, .int b, .int c] (upd (upd H dz (.own z)) z (.ins Ce dz [])) (fun v H3 => v = .non ∧ Q (.ref z) H3) E0 := by
  intro z dz nz ndz nez
  refine ⟨z, dz, a, b, c, rfl, upd_same, hB, fun H' bz hE => ⟨rfl, k H' _ (fun b' o e => ?_) (.inr ⟨hc, z, rfl, ?_⟩)⟩⟩
  · refine bz _ _ (ne_of_none e nz) ?_
    rw [upd_ne (ne_of_none e nz), upd_ne (ne_of_none e ndz)]
    exact e
  · rw [he]
    exact hE
section
variable {P : Program} {w : World} {K : PySem.W.Frag} {mg : Str → Option Value} {base : Heap} {tG t1 t3 tC tK tP : Tok} {aO aW aCh Ce : Addr}
theorem pow_up {a b : Nat} (h : a ≤ b) : (2 : Int) ^ a ≤ 2 ^ b := by
  have := Nat.pow_le_pow_right (n := 2) (by decide) h
  have e : ∀ k : Nat, ((2 ^ k : Nat) : Int) = 2 ^ k := fun k => by rw [Int.natCast_pow]; rfl
  rw [← e, ← e]
  omega
theorem bits_lt {n : Int} (h : 0 ≤ n) : n < 2 ^ (Builtin.Int.intBits n) := by
  unfold Builtin.Int.intBits
  by_cases z : n = 0
  · subst z
    decide
  · rw [if_neg (by simpa using z)]
    have := Nat.lt_log2_self (n := n.natAbs)
    have e : ((2 ^ (n.natAbs.log2 + 1) : Nat) : Int) = 2 ^ (n.natAbs.log2 + 1) := by rw [Int.natCast_pow]; rfl
    rw [← e]
    omega
theorem bits_le {n : Int} {m : Nat} (h : Sm m n) : Builtin.Int.intBits n ≤ m := PyProof.Rows.intBits_le h
abbrev s_square_root : Stmt := top 21
theorem sc_square_root : FnScope ["number", "guess"] ["number"] (defScope s_square_root) := ⟨rfl, rfl, rfl, by decide +kernel, rfl, by decide +kernel, by decide +kernel⟩

theorem ok_sqrt {f : Addr} {fd : FuncData} (F : Fun K "square_root" "square_root" s_square_root f fd) : FnOk P w K mg base CX0 1 f fd ["number"] spRoot := by
  refine F.ok sc_square_root (fun vs H Q E h => ?_) (fun cdv A outer s H vs Q E hr h => ?_)
  · obtain ⟨n, rfl, _⟩ := h
    rfl
  · obtain ⟨n, rfl, n0, ns, k⟩ := h
    refine ⟨_, (pss_cons (ps_set (i := 1) sc_square_root.nd rfl (.inl rfl) (pe_op op_oneShl pe_int (pe_op op_fdivW (pe_op op_add (pe_bits (pv 0)) pe_int) pe_int)))
      (pss_cons (ps_while PassesOwn.never (pt_cmpR op_gt (pe_op op_mulX (pv 1) (pv 1)) (pv 0) (nomark _)) (pss_one (ps_set (i := 1) sc_square_root.nd rfl (.inl rfl) (pe_op op_fdivW (pe_op op_add (pv 1) (pe_op op_fdivW (pv 0) (pv 1))) pe_int))))
      (pss_one (ps_ret (pv 1))))), ?_⟩
    have hb := bits_le ns
    have hl := bits_lt n0
    refine ⟨_, rfl, n, rfl, _, _, rfl, rfl, _, _, rfl, rfl, dvw (b := 3) (by decide) (by unfold Sm; decide), ?_⟩
    have ek : ((Builtin.Int.intBits n : Nat) + 1 : Int) / 2 = (((Builtin.Int.intBits n + 1) / 2 : Nat) : Int) := by omega
    generalize Builtin.Int.intBits n = b at *
    refine ⟨(b + 1) / 2, rfl, congrArg V.int ek, (by omega), ?_⟩
    have ks : (b + 1) / 2 ≤ 2000 := by omega
    have kb : b ≤ (b + 1) / 2 + (b + 1) / 2 := by omega
    generalize (b + 1) / 2 = q at *
    have p0 : (0 : Int) < 2 ^ q := Int.pow_pos (by decide)
    have hp : n < 2 ^ q * 2 ^ q := by
      rw [← Int.pow_add]
      exact Int.lt_of_lt_of_le hl (pow_up kb)
    have gs : Sm 2001 (2 ^ q) := by
      unfold Sm
      rw [Int.natAbs_pow]
      exact Nat.pow_lt_pow_right (by decide) (by omega)
    refine while_by (fun σ H' => H' = H ∧ ∃ g : Int, σ = [some (.int n), some (.int g)] ∧ 0 ≤ g ∧ n < (g + 1) * (g + 1) ∧ Sm 2001 g) (fun σ _ => match σ with | [_, some (.int g)] => g.toNat | _ => 0) ⟨rfl, 2 ^ q, rfl, by omega, ?_, gs⟩ ?_ ?_
    · have e : ((2 : Int) ^ q + 1) * (2 ^ q + 1) = 2 ^ q * 2 ^ q + 2 * 2 ^ q + 1 := by
        generalize (2 : Int) ^ q = u
        grind
      omega
    · rintro σ H' ⟨rfl, g, rfl, g0, g1, gs⟩
      refine ⟨_, rfl, _, rfl, _, _, rfl, rfl, mx gs gs, _, rfl, _, _, rfl, rfl, _, rfl, ite2 (fun e => ?_) (fun e => ?_)⟩
      · have e0 : n < g * g := of_decide_eq_true e
        obtain ⟨h1, h2, h3, h4⟩ := newton n0 g0 g1 e0
        refine ⟨_, rfl, _, rfl, _, rfl, _, _, rfl, rfl, dvw h1 gs, _, _, rfl, rfl, _, _, rfl, rfl, dvw (b := 3) (by decide) (by unfold Sm; decide), ⟨rfl, _, rfl, h2, h4, gs.of (by omega) (by omega)⟩, ?_⟩
        show ((g + n / g) / 2).toNat < g.toNat
        omega
      · have e0 : ¬ n < g * g := fun z => e (decide_eq_true z)
        refine ⟨_, rfl, ?_⟩
        rw [rt_of ⟨g0, by omega, g1⟩]
        exact k _ (Same.refl _)
    · rintro σ H' Q1 Q2 hq h
      obtain ⟨v, e1, v2, e2, i, j, e3, e4, cm, v3, e5, i2, j2, e6, e7, z⟩ := h
      exact ⟨v, e1, v2, e2, i, j, e3, e4, cm, v3, e5, i2, j2, e6, e7, z.imp fun k z => ⟨z.1, hq _ _ z.2⟩⟩
abbrev s_under_root : Stmt := top 60
theorem sc_under_root : FnScope ["square", "line", "whole"] ["square", "line", "whole"] (defScope s_under_root) := ⟨rfl, rfl, rfl, by decide +kernel, rfl, by decide +kernel, by decide +kernel⟩

theorem ok_under {f : Addr} {fd : FuncData} (F : Fun K "under_root" "under_root" s_under_root f fd) : FnOk P w K mg base CX0 1 f fd ["square", "line", "whole"] spUnder := by
  refine F.ok sc_under_root (fun vs H Q E h => ?_) (fun cdv A outer s H vs Q E hr h => ?_)
  · obtain ⟨a, b, c, rfl, _⟩ := h
    rfl
  · obtain ⟨a, b, c, rfl, ha, hb, hc, k⟩ := h
    refine ⟨_, (pss_one (ps_ret (pe_op op_add (pe_op op_mulX (pv 1) (pv 1)) (pe_op op_mulX (pe_op op_mul pe_int (pv 0)) (pv 2))))), ?_⟩
    have h4 : Sm 1003 (4 * a) := Sm.mul (m := 3) (n := 1000) (x := 4) (by unfold Sm; decide) ha
    exact ⟨_, rfl, _, rfl, _, _, rfl, rfl, mx hb hb, _, rfl, _, _, rfl, rfl, .inl ⟨by decide, by decide⟩, _, rfl, _, _, rfl, rfl, mx h4 hc, _, _, rfl, rfl, k⟩
abbrev s_equation_of_fraction : Stmt := top 62
theorem sc_equation_of_fraction : FnScope ["top", "bottom", "top_part", "bottom_part"] ["top", "bottom"] (defScope s_equation_of_fraction) := ⟨rfl, rfl, rfl, by decide +kernel, rfl, by decide +kernel, by decide +kernel⟩

theorem ok_eqf {f : Addr} {fd : FuncData} (F : Fun K "equation_of_fraction" "equation_of_fraction" s_equation_of_fraction f fd) (D_lowest_terms : Df P w K mg base 2 "lowest_terms" ["top", "bottom"] spLow) : FnOk P w K mg base CX0 3 f fd ["top", "bottom"] spEqF := by
  refine F.ok sc_equation_of_fraction (fun vs H Q E h => ?_) (fun cdv A outer s H vs Q E hr h => ?_)
  · obtain ⟨t, b, rfl, _⟩ := h
    rfl
  · obtain ⟨t, b, rfl, tb, ts, bs, k⟩ := h
    refine ⟨_, (pss_cons (ps_asg (pe_df D_lowest_terms (hr.mono (by decide)) (by rfl) (pa_cons (pv 0) (pa_cons (pv 1) pa_nil))) (pg_tup rfl (pgs_cons (pg_name (i := 2) sc_equation_of_fraction.nd rfl (.inl rfl)) (pgs_cons (pg_name (i := 3) sc_equation_of_fraction.nd rfl (.inl rfl)) pgs_nil))))
      (pss_one (ps_ret (pe_tup (pa_cons pe_int (pa_cons (pv 3) (pa_cons (pv 2) pa_nil))))))), ?_⟩
    refine ⟨_, rfl, _, rfl, t, b, rfl, tb, ts, bs, fun H1 p sm np hp => ?_⟩
    refine ⟨p, _, rfl, SqT.of hp, rfl, _, _, rfl, _, _, rfl, rfl, ?_⟩
    exact ⟨_, rfl, _, rfl, (by show 3 ≤ sizeLine; decide), fun q hq => k _ q (sm.trans (same_upd hq)) (sm.free hq) upd_same⟩
abbrev s_simplest_equation : Stmt := top 61
theorem sc_simplest_equation : FnScope ["square", "line", "whole", "inside", "root", "divisor"] ["square", "line", "whole"] (defScope s_simplest_equation) := ⟨rfl, rfl, rfl, by decide +kernel, rfl, by decide +kernel, by decide +kernel⟩

theorem ok_simp {f : Addr} {fd : FuncData} (F : Fun K "simplest_equation" "simplest_equation" s_simplest_equation f fd) (D_common_divisor : Df P w K mg base 1 "common_divisor" ["first", "second"] spGcd) (D_square_root : Df P w K mg base 1 "square_root" ["number"] spRoot)
    (D_under_root : Df P w K mg base 1 "under_root" ["square", "line", "whole"] spUnder) (D_equation_of_fraction : Df P w K mg base 3 "equation_of_fraction" ["top", "bottom"] spEqF) : FnOk P w K mg base CX0 4 f fd ["square", "line", "whole"] spSimp := by
  refine F.ok sc_simplest_equation (fun vs H Q E h => ?_) (fun cdv A outer s H vs Q E hr h => ?_)
  · obtain ⟨a, b, c, rfl, _⟩ := h
    rfl
  · obtain ⟨a, b, c, rfl, hG, ha, hb, hc, k⟩ := h
    refine ⟨_, (pss_cons (ps_if (pt_cmpR op_eq (pv 0) pe_int (nomark _)) (pss_one (ps_ret (pe_df D_equation_of_fraction (hr.mono (by decide)) (by rfl) (pa_cons (pv 2) (pa_cons (pv 1) pa_nil))))) pss_nil)
      (pss_cons (ps_set (i := 3) sc_simplest_equation.nd rfl (.inl rfl) (pe_df D_under_root (hr.mono (by decide)) (by rfl) (pa_cons (pv 0) (pa_cons (pv 1) (pa_cons (pv 2) pa_nil)))))
      (pss_cons (ps_set (i := 4) sc_simplest_equation.nd rfl (.inl rfl) (pe_df D_square_root (hr.mono (by decide)) (by rfl) (pa_cons (pv 3) pa_nil)))
      (pss_cons (ps_if (pt_cmpR op_eq (pe_op op_mulX (pv 4) (pv 4)) (pv 3) (nomark _)) (pss_one (ps_ret (pe_df D_equation_of_fraction (hr.mono (by decide)) (by rfl) (pa_cons (pe_op op_sub (pv 4) (pv 1)) (pa_cons (pe_op op_mul pe_int (pv 0)) pa_nil))))) pss_nil)
      (pss_cons (ps_set (i := 5) sc_simplest_equation.nd rfl (.inl rfl) (pe_df D_common_divisor (hr.mono (by decide)) (by rfl) (pa_cons (pe_df D_common_divisor (hr.mono (by decide)) (by rfl) (pa_cons (pv 0) (pa_cons (pv 1) pa_nil))) (pa_cons (pv 2) pa_nil))))
      (pss_one (ps_ret (pe_tup (pa_cons (pe_op op_fdivW (pv 0) (pv 5)) (pa_cons (pe_op op_fdivW (pv 1) (pv 5)) (pa_cons (pe_op op_fdivW (pv 2) (pv 5)) pa_nil))))))))))), ?_⟩
    unfold parts at k
    refine ⟨_, rfl, rfl, _, rfl, ite2 (fun e => ?_) (fun e => ?_)⟩
    · have a0 : a = 0 := V.int.inj (of_decide_eq_true e)
      rw [if_pos a0] at k
      have b0 : 1 ≤ b ∧ 0 ≤ c := by
        rcases hG with z | z
        · exact z.2
        · omega
      exact ⟨_, rfl, _, rfl, c, b, rfl, ⟨b0.2, by show 0 ≤ b; omega, .inr (by show 0 < b; omega)⟩, hc.mono (by decide), hb.mono (by decide), k⟩
    · have a0 : ¬ a = 0 := fun z => e (decide_eq_true (congrArg V.int z))
      rw [if_neg a0] at k
      have hg : 1 ≤ a ∧ 1 ≤ c := by
        rcases hG with z | z
        · exact absurd z.1 a0
        · exact z
      have ip := inside_pos (b := b) hg
      have hd : Sm 270 (b * b + 4 * a * c) := by
        have h4 : Sm 3 4 := by unfold Sm; decide
        have e1 : Sm (133 + 133) (b * b) := hb.mul hb
        have e2 : Sm (3 + 133 + 133) (4 * a * c) := (h4.mul ha).mul hc
        exact (Sm.add (n := 269) (e1.mono (by decide)) (e2.mono (by decide)))
      have hr0 : Sm 135 (rt (b * b + 4 * a * c)) := rt_sm (n := 135) ip.2 hd
      refine ⟨_, rfl, _, rfl, _, rfl, a, b, c, rfl, ha.mono (by decide), hb.mono (by decide), hc.mono (by decide), ?_⟩
      refine ⟨_, rfl, _, rfl, ip.2, hd.mono (by decide), fun H1 sm => ?_⟩
      refine ⟨_, rfl, _, rfl, _, _, rfl, rfl, mx hr0 hr0, _, rfl, rfl, _, rfl, ite2 (fun e2 => ?_) (fun e2 => ?_)⟩
      · have e3 : rt (b * b + 4 * a * c) * rt (b * b + 4 * a * c) = b * b + 4 * a * c := V.int.inj (of_decide_eq_true e2)
        rw [if_pos e3] at k
        have rg := rt_gt ip.1 (rt_is ip.2).1 e3.symm
        refine ⟨_, rfl, _, rfl, _, _, rfl, rfl, _, rfl, _, _, rfl, rfl, .inl ⟨by decide, by decide⟩, _, _, rfl, ⟨by show 0 ≤ rt (b * b + 4 * a * c) - b; omega, by show 0 ≤ 2 * a; omega, .inr (by show 0 < 2 * a; omega)⟩, ?_, ?_, fun H2 p sm2 np hp => ?_⟩
        · exact (hr0.sub (hb.mono (by decide))).mono (by decide)
        · exact (Sm.mul (m := 2) (n := 133) (x := 2) (by unfold Sm; decide) ha).mono (by decide)
        · exact k _ p (sm.trans sm2) (sm.free np) hp
      · have e3 : ¬ rt (b * b + 4 * a * c) * rt (b * b + 4 * a * c) = b * b + 4 * a * c := fun z => e2 (decide_eq_true (congrArg V.int z))
        rw [if_neg e3] at k
        have g0 : 0 < gc (gc a b) c := gc_pos (.inr (by omega))
        have gb : gc (gc a b) c ≤ c := Int.le_of_dvd (by omega) (gc_dvd2 _ _)
        have gs : Sm 133 (gc (gc a b) c) := hc.of (by omega) gb
        refine ⟨_, rfl, _, rfl, a, b, rfl, _, rfl, _, _, rfl, ?_⟩
        refine ⟨_, rfl, _, rfl, _, _, rfl, rfl, dvw g0 gs, _, rfl, _, rfl, _, _, rfl, rfl, dvw g0 gs, _, rfl, _, rfl, _, _, rfl, rfl, dvw g0 gs, (by show 3 ≤ sizeLine; decide), fun p hp => ?_⟩
        exact k _ _ (sm.trans (same_upd hp)) (sm.free hp) upd_same
abbrev s_Exact_init : Stmt := inClass (top 59) 0
theorem sc_Exact_init : FnScope ["self", "square", "line", "whole"] ["self", "square", "line", "whole"] (defScope s_Exact_init) := ⟨rfl, rfl, rfl, by decide +kernel, rfl, by decide +kernel, by decide +kernel⟩

theorem ok_init {f : Addr} {fd : FuncData} (F : Fun K "__init__" "Exact.__init__" s_Exact_init f fd) (T : TxtX K mg w tG t1 t3 tC tK tP aO aW aCh Ce) (D_is_integer_within : Df P w K mg base 2 "is_integer_within" ["value", "least", "most"] spWithin) (D_simplest_equation : Df P w K mg base 4 "simplest_equation" ["square", "line", "whole"] spSimp) :
    FnOk P w K mg base CX0 5 f fd ["self", "square", "line", "whole"] (spInit Ce) := by
  refine F.ok sc_Exact_init (fun vs H Q E h => ?_) (fun cdv A outer s H vs Q E hr h => ?_)
  · obtain ⟨x, dx, a, b, c, rfl, _⟩ := h
    rfl
  · obtain ⟨x, dx, a, b, c, rfl, hx, hB, k⟩ := h
    refine ⟨_, (pss_cons (ps_if (pt_not (pt_val (pe_df D_is_integer_within (hr.mono (by decide)) (by rfl) (pa_cons (pv 1) (pa_cons pe_int (pa_cons (pe_glob (v := .int 10000000000000000000000000000000000000000) rfl T.mgP ⟨_, rfl⟩) pa_nil)))))) (pss_one ps_never) pss_nil)
      (pss_cons (ps_if (PW.pt (pw_or (pt_not (pt_val (pe_df D_is_integer_within (hr.mono (by decide)) (by rfl) (pa_cons (pv 2) (pa_cons (pe_un un_neg (pe_glob (v := .int 10000000000000000000000000000000000000000) rfl T.mgP ⟨_, rfl⟩)) (pa_cons (pe_glob (v := .int 10000000000000000000000000000000000000000) rfl T.mgP ⟨_, rfl⟩) pa_nil)))))) (pw_or1 (PW.pt (pw_and (pt_cmpR op_eq (pv 1) pe_int (nomark _)) (pw_and1 (pt_cmpR op_lt (pv 2) pe_int (nomark _)))))))) (pss_one ps_never) pss_nil)
      (pss_cons (ps_if (PW.pt (pw_or (pt_not (pt_val (pe_df D_is_integer_within (hr.mono (by decide)) (by rfl) (pa_cons (pv 3) (pa_cons pe_int (pa_cons (pe_glob (v := .int 10000000000000000000000000000000000000000) rfl T.mgP ⟨_, rfl⟩) pa_nil)))))) (pw_or1 (PW.pt (pw_and (pt_cmpR op_ne (pv 1) pe_int (nomark _)) (pw_and1 (pt_cmpR op_eq (pv 3) pe_int (nomark _)))))))) (pss_one ps_never) pss_nil)
      (pss_one (ps_fld (pv 0) (pe_df D_simplest_equation (hr.mono (by decide)) (by rfl) (pa_cons (pv 1) (pa_cons (pv 2) (pa_cons (pv 3) pa_nil)))) rfl))))), ?_⟩
    obtain ⟨sa, sb, sc⟩ := hB.sm
    obtain ⟨g, h1, h2, h3, h4⟩ := hB
    have a0 : 0 ≤ a ∧ 0 ≤ c := by
      rcases g with g | g <;> omega
    refine ⟨_, rfl, a, 0, _, rfl, a0.1, h1, true, rfl, iteF ?_⟩
    refine ⟨_, rfl, _, rfl, b, _, _, rfl, h2, h3, true, rfl, iteF ?_⟩
    refine both (fun rest => ⟨_, rfl, rfl, _, rfl, ite2 (fun e => ⟨_, rfl, _, _, rfl, rfl, _, rfl, ite2 (fun e2 => ?_) (fun _ => rest)⟩) (fun _ => iteF rest)⟩) ?_
    · have e3 : a = 0 := V.int.inj (of_decide_eq_true e)
      have e4 : b < 1 := of_decide_eq_true e2
      rcases g with g | g <;> omega
    refine ⟨_, rfl, c, 0, _, rfl, a0.2, h4, true, rfl, iteF ?_⟩
    refine both (fun rest => ⟨_, rfl, rfl, _, rfl, ite2 (fun e => ⟨_, rfl, rfl, _, rfl, ite2 (fun e2 => ?_) (fun _ => rest)⟩) (fun _ => iteF rest)⟩) ?_
    · have e3 : ¬ a = 0 := fun z => by
        have e5 : (!decide (V.int a = V.int 0)) = true := e
        rw [decide_eq_true (congrArg V.int z)] at e5
        cases e5
      have e4 : c = 0 := V.int.inj (of_decide_eq_true e2)
      rcases g with g | g <;> omega
    refine ⟨_, rfl, _, rfl, _, rfl, a, b, c, rfl, g, sa, sb, sc, fun H1 p sm np hp => ?_⟩
    have hx1 := sm _ _ hx
    have nxp : x ≠ p := ne_of hx1 hp (by intro z; cases z)
    refine ⟨_, rfl, x, Ce, dx, _, rfl, hx1, T.clE, T.nP, (by show 0 < 1000; decide), ?_⟩
    refine k _ ((But.of sm).trans But.upd) ⟨dx, p, upd_same, ?_⟩
    rw [upd_ne nxp.symm]
    exact hp
abbrev s_Exact_equation : Stmt := inClass (top 59) 2
theorem sc_Exact_equation : FnScope ["self"] ["self"] (defScope s_Exact_equation) := ⟨rfl, rfl, rfl, by decide +kernel, rfl, by decide +kernel, by decide +kernel⟩

theorem ok_eqn {f : Addr} {fd : FuncData} (F : Fun K "equation" "Exact.equation" s_Exact_equation f fd) (T : TxtX K mg w tG t1 t3 tC tK tP aO aW aCh Ce) : FnOk P w K mg base CX0 1 f fd ["self"] (spEqn Ce) := by
  refine F.ok sc_Exact_equation (fun vs H Q E h => ?_) (fun cdv A outer s H vs Q E hr h => ?_)
  · obtain ⟨x, dx, p, rfl, _⟩ := h
    rfl
  · obtain ⟨x, dx, p, rfl, hx, k⟩ := h
    refine ⟨_, (pss_one (ps_ret (pe_fld (pv 0) rfl))), ?_⟩
    exact ⟨_, rfl, x, Ce, dx, _, _, rfl, hx, T.clE, T.nP, rfl, k⟩
abbrev s_ladder_limit : Stmt := top 68
theorem sc_ladder_limit : FnScope ["matrix", "a", "b", "c", "d"] ["matrix"] (defScope s_ladder_limit) := ⟨rfl, rfl, rfl, by decide +kernel, rfl, by decide +kernel, by decide +kernel⟩

theorem ok_lim {f : Addr} {fd : FuncData} (F : Fun K "ladder_limit" "ladder_limit" s_ladder_limit f fd) (T : TxtX K mg w tG t1 t3 tC tK tP aO aW aCh Ce) (X_exact : ExD P w K mg base Ce) : FnOk P w K mg base CX0 7 f fd ["matrix"] (spLim aO Ce) := by
  refine F.ok sc_ladder_limit (fun vs H Q E h => ?_) (fun cdv A outer s H vs Q E hr h => ?_)
  · obtain ⟨a, r, rfl, _⟩ := h
    rfl
  · obtain ⟨a, r, rfl, ha, hok, l8, k⟩ := h
    refine ⟨_, (pss_cons (ps_asg (pv 0) (pg_tup rfl (pgs_cons (pg_name (i := 1) sc_ladder_limit.nd rfl (.inl rfl)) (pgs_cons (pg_name (i := 2) sc_ladder_limit.nd rfl (.inl rfl)) (pgs_cons (pg_name (i := 3) sc_ladder_limit.nd rfl (.inl rfl)) (pgs_cons (pg_name (i := 4) sc_ladder_limit.nd rfl (.inl rfl)) pgs_nil))))))
      (pss_cons (ps_if (pt_cmpR op_eq (pv 3) pe_int (nomark _)) (pss_one (ps_ret (pe_glob (v := .ref aO) rfl T.mgO rfl))) pss_nil)
      (pss_cons (ps_if (pt_cmpR op_eq (pv 2) pe_int (nomark _)) (pss_one (ps_ret (pe_exact X_exact (hr.mono (by decide)) rfl T.mgE (pa_cons pe_int (pa_cons pe_int (pa_cons pe_int pa_nil)))))) pss_nil)
      (pss_one (ps_ret (pe_exact X_exact (hr.mono (by decide)) rfl T.mgE (pa_cons (pv 3) (pa_cons (pe_op op_sub (pv 4) (pv 1)) (pa_cons (pv 2) pa_nil))))))))), ?_⟩
    obtain ⟨a0, a1, b0, b1, c0, c1, d0, d1⟩ := matR_le hok l8
    refine ⟨_, rfl, a, _, rfl, SqT.of ha, rfl, _, _, rfl, _, _, rfl, _, _, rfl, _, _, rfl, rfl, ?_⟩
    refine ⟨_, rfl, rfl, _, rfl, ite2 (fun e => ?_) (fun e => ?_)⟩
    · exact k _ _ (Same.refl _) (.inl ⟨V.int.inj (of_decide_eq_true e), rfl⟩)
    have cn : (matR r).c ≠ 0 := fun z => e (decide_eq_true (congrArg V.int z))
    refine ⟨_, rfl, rfl, _, rfl, ite2 (fun e2 => ?_) (fun e2 => ?_)⟩
    · have bz : (matR r).b = 0 := V.int.inj (of_decide_eq_true e2)
      exact make_lim ⟨.inl ⟨rfl, by decide, by decide⟩, by decide, by decide, by decide, by decide⟩ cn (by unfold eqL; rw [if_pos bz, parts010]) k
    · have bn : (matR r).b ≠ 0 := fun z => e2 (decide_eq_true (congrArg V.int z))
      refine ⟨_, rfl, _, rfl, _, rfl, _, _, rfl, rfl, _, rfl, ?_⟩
      exact make_lim ⟨.inr ⟨by omega, by omega⟩, by omega, by omega, by omega, by omega⟩ cn (by unfold eqL; rw [if_neg bn]) k
abbrev s_Exact_eq : Stmt := inClass (top 59) 6
theorem sc_Exact_eq : FnScope ["self", "other"] ["self", "other"] (defScope s_Exact_eq) := ⟨rfl, rfl, rfl, by decide +kernel, rfl, by decide +kernel, by decide +kernel⟩

end
end RL

set_option maxHeartbeats 4000000
namespace RL
open PySem L2 PySem.Spec PyProof.Rows
theorem op_or2 {X : Cx} {f : Value → Value → Sem Value} {r1 r2 : R2} (h1 : OpR X f r1) (h2 : OpR X f r2) : OpR X f (fun x y H Q => r1 x y H Q ∨ r2 x y H Q) := by
  intro pins s σ H x y v u Q I rx ry h
  rcases h with h | h
  · exact h1 pins s σ H x y v u Q I rx ry h
  · exact h2 pins s σ H x y v u Q I rx ry h
structure OwQ (P : Program) (w : World) (K : PySem.W.Frag) (mg : Str → Option Value) (base : Heap) (Ce p g : Addr) (fd : FuncData) : Prop where
  pr : PropOf K Ce "equation" p g
  ok : FnOk P w K mg base CX0 1 g fd ["self"] (spEqn Ce)
  b : Binds K fd ["self"] []
/-! ### the limit of a ladder: the checker -/
theorem lay_ints : ∀ {ds : List PyData}, (∀ d ∈ ds, isIntD d = true) → PyData.canLayAll0 ds = true ∧ PyData.depthAll ds ≤ 1
  | [], _ => ⟨rfl, by simp [PyData.depthAll]⟩
  | d :: ds, h => by
    obtain ⟨a, b⟩ := lay_ints (ds := ds) fun x hx => h x (List.mem_cons_of_mem _ hx)
    obtain ⟨i, rfl⟩ := int_of (h d List.mem_cons_self)
    refine ⟨?_, ?_⟩
    · simp [PyData.canLayAll0, PyData.canLay0, a]
    · simp [PyData.depthAll, PyData.depth]
      omega
theorem sh_ints {ds : List PyData} (h : ∀ d ∈ ds, isIntD d = true) : SeqAt.shaped (.tuple ds) = true := by
  obtain ⟨a, b⟩ := lay_ints h
  unfold SeqAt.shaped
  simp [PyData.canLay0, PyData.depth, a]
  omega
def limD (r : List Pc) : PyData := if (matR r).c = 0 then .tuple [.int 1, .int 0] else .tuple [.int (eqL r).1, .int (eqL r).2.1, .int (eqL r).2.2]
def intsG : PyData → Bool
  | .tuple ds => ds.all isIntD
  | _ => false
def limB : List PyData → PyData → Bool
  | [r, l, x], e => emptyG e && (rowG r && (resG l && (intsG x && PyData.eqv x (limD (rowOf r)))))
  | _, _ => false
def spEqO (Ce aO : Addr) : Sp := fun vs H Q _ => ∃ (x dx : Addr) (fs : List (Str × V)), vs = [.ref x, .ref aO] ∧ H x = some (.ins Ce dx fs) ∧ Q (.bl false) H
structure OwX (P : Program) (w : World) (K : PySem.W.Frag) (mg : Str → Option Value) (base : Heap) (C aO g : Addr) (fd : FuncData) : Prop where
  e_at : PySem.W.findIn K (.ref C) "__eq__" = some (some (.ref g))
  e_fn : PySem.W.isFn K (.ref g) = true
  ok : FnOk P w K mg base CX0 1 g fd ["self", "other"] (spEqO C aO)
  b : Binds K fd ["self", "other"] []
  nf : PySem.W.notFirst K C (.type "tuple") = true
section
variable {P : Program} {w : World} {K : PySem.W.Frag} {mg : Str → Option Value} {base : Heap} {tG t1 t3 tC tK tP : Tok} {aO aW aCh Ce pq gq gx : Addr} {fq fx : FuncData}
theorem ok_eqo {f : Addr} {fd : FuncData} (F : Fun K "__eq__" "Exact.__eq__" s_Exact_eq f fd) (T : TxtX K mg w tG t1 t3 tC tK tP aO aW aCh Ce) (kt : PySem.W.kitOne K (.type "tuple") (.ref Ce) = some false) : FnOk P w K mg base CX0 1 f fd ["self", "other"] (spEqO Ce aO) := by
  refine F.ok sc_Exact_eq (fun vs H Q E h => ?_) (fun cdv A outer s H vs Q E hr h => ?_)
  · obtain ⟨x, dx, fs, rfl, _⟩ := h
    rfl
  · obtain ⟨x, dx, fs, rfl, hx, k⟩ := h
    refine ⟨_, (pss_one (ps_ret (pe_and (pe_callB call_isi (by rfl) T.isinstance (by decide +kernel) (pa_cons (pv 1) (pa_cons (pe_glob (v := .ref Ce) rfl T.mgE rfl) pa_nil))) (pe_one (pe_cmpR op_eq (pe_fld (pv 0) rfl) (pe_fld (pv 1) rfl) (nomark _)))))), ?_⟩
    exact ⟨_, rfl, _, _, _, _, false, rfl, .own Ce, ty_dp (d := .tuple [.int 1, .int 0]) (.tup (.inr T.opn) (.cons (.int _) (.cons (.int _) .nil))), kt, false, rfl, iteF k⟩
abbrev s_check_limit : Stmt := top 97
theorem sc_check_limit : FnScope ["places", "certificate", "row", "load", "told", "part", "limit"] ["places", "certificate"] (defScope s_check_limit) := ⟨rfl, rfl, rfl, by decide +kernel, rfl, by decide +kernel, by decide +kernel⟩

end
end RL

set_option maxHeartbeats 4000000
namespace RL
open PySem L2 PySem.Spec PyProof.Rows
def oP (x y : Int × Int) : Int := sg (x.1 * y.2 - y.1 * x.2)
def spSgn : Sp := fun vs H Q _ => ∃ (a b : Addr) (e f : Int × Int), vs = [.ref a, .ref b] ∧ PairAt H a e ∧ PairAt H b f ∧ Sm 4000 e.1 ∧ Sm 4000 e.2 ∧ Sm 4000 f.1 ∧ Sm 4000 f.2 ∧ Q (.int (oP e f)) H
section
variable {P : Program} {w : World} {K : PySem.W.Frag} {mg : Str → Option Value} {base : Heap} {tG t1 t3 tC tK : Tok} {aO aW aCh : Addr}
abbrev s_law_sign : Stmt := top 110
theorem sc_law_sign : FnScope ["_law_one", "_law_two", "_law_gap"] ["_law_one", "_law_two"] (defScope s_law_sign) := ⟨rfl, rfl, rfl, by decide +kernel, rfl, by decide +kernel, by decide +kernel⟩

theorem ok_sgn {f : Addr} {fd : FuncData} (F : Fun K "_law_sign" "_law_sign" s_law_sign f fd) : FnOk P w K mg base CX0 1 f fd ["_law_one", "_law_two"] spSgn := by
  refine F.ok sc_law_sign (fun vs H Q E h => ?_) (fun cdv A outer s H vs Q E hr h => ?_)
  · obtain ⟨a, b, e, f, rfl, _⟩ := h
    rfl
  · obtain ⟨a, b, e, f, rfl, ha, hb, e1, e2, f1, f2, k⟩ := h
    refine ⟨_, (pss_cons (ps_set (i := 2) sc_law_sign.nd rfl (.inl rfl) (pe_op op_sub (pe_op op_mulX (pe_ix ix_tup (pv 0) pe_int (fun _ _ => rfl)) (pe_ix ix_tup (pv 1) pe_int (fun _ _ => rfl))) (pe_op op_mulX (pe_ix ix_tup (pv 1) pe_int (fun _ _ => rfl)) (pe_ix ix_tup (pv 0) pe_int (fun _ _ => rfl)))))
      (pss_one (ps_ret (pe_ifExp (pt_cmpR op_gt (pv 2) pe_int (nomark _)) pe_int (pe_ifExp (pt_cmpR op_lt (pv 2) pe_int (nomark _)) (pe_un un_neg pe_int) pe_int))))), ?_⟩
    refine ⟨_, rfl, a, _, _, _, rfl, rfl, SqT.of ha, atI_nat (j := 0) rfl, _, rfl, b, _, _, _, rfl, rfl, SqT.of hb, atI_nat (j := 1) rfl, _, _, rfl, rfl, mx e1 f2, ?_⟩
    refine ⟨_, rfl, b, _, _, _, rfl, rfl, SqT.of hb, atI_nat (j := 0) rfl, _, rfl, a, _, _, _, rfl, rfl, SqT.of ha, atI_nat (j := 1) rfl, _, _, rfl, rfl, mx f1 e2, _, _, rfl, rfl, ?_⟩
    unfold oP sg at k
    refine ⟨_, rfl, _, _, rfl, rfl, _, rfl, ite2 (fun g => ?_) (fun g => ?_)⟩
    · rw [if_pos (show 0 < e.1 * f.2 - f.1 * e.2 from of_decide_eq_true g)] at k
      exact k
    · rw [if_neg (show ¬ 0 < e.1 * f.2 - f.1 * e.2 from fun z => g (decide_eq_true z))] at k
      refine ⟨_, rfl, _, _, rfl, rfl, _, rfl, ite2 (fun g2 => ?_) (fun g2 => ?_)⟩
      · rw [if_pos (show e.1 * f.2 - f.1 * e.2 < 0 from of_decide_eq_true g2)] at k
        exact ⟨1, rfl, k⟩
      · rw [if_neg (show ¬ e.1 * f.2 - f.1 * e.2 < 0 from fun z => g2 (decide_eq_true z))] at k
        exact k
end
end RL

set_option maxHeartbeats 4000000
namespace RL
open PySem L2 PySem.Spec PyProof.Rows
def SaidAt (aO : Addr) (H : Hp) (p : Addr) (e : Int × Int) : Prop := PairAt H p e ∨ (p = aO ∧ e = (1, 0))
theorem SaidAt.same {aO : Addr} {H H' : Hp} {p : Addr} {e : Int × Int} (h : SaidAt aO H p e) (s : Same H H') : SaidAt aO H' p e := h.imp (fun h => s _ _ h) id
def spTimes : Sp := fun vs H Q _ => ∃ (z : Addr) (S L W k : Int), vs = [.ref z, .int k] ∧ ParAt H z S L W ∧ Sm 70 S ∧ Sm 70 L ∧ Sm 70 W ∧ Sm 70 k ∧ ∀ H' z', Same H H' → ParAt H' z' (S * k) (L * k) (W * k) → Q (.ref z') H'
def nmR (r r' : List Pc) : Bool := nbB (qS (matR r') (matR r)) (qL (matR r') (matR r)) (qW (matR r') (matR r))
def mlE (r r' : List Pc) : Int × Int := low (lowE (qS (matR r') (matR r)) (qL (matR r') (matR r)) (qW (matR r') (matR r)))
def spML (aO C : Addr) : Sp := fun vs H Q _ => ∃ (x y : Addr) (r r' : List Pc), vs = [.ref x, .ref y] ∧ PatAt C H x r ∧ PatAt C H y r' ∧ RowOk r ∧ RowOk r' ∧ r.length ≤ 8 ∧ r'.length ≤ 8 ∧
  (nmR r r' = true → ∀ H', Same H H' → Q .non H') ∧ (nmR r r' = false → ∀ H' p, Same H H' → SaidAt aO H' p (mlE r r') → Q (.ref p) H')
theorem q_sm63 {m n : Mx} (hm : MxSm 30 m) (hn : MxSm 30 n) : Sm 63 (qS m n) ∧ Sm 63 (qL m n) ∧ Sm 63 (qW m n) := by
  obtain ⟨a, b, c, d⟩ := hm
  obtain ⟨a', b', c', d'⟩ := hn
  refine ⟨?_, ?_, ?_⟩
  · exact (Sm.sub (a.mul c') (a'.mul c)).mono (by decide)
  · exact (Sm.sub (Sm.sub (Sm.add (a.mul d') (b.mul c')) ((a'.mul d).mono (by decide))) ((b'.mul c).mono (by decide))).mono (by decide)
  · exact (Sm.sub (b.mul d') (b'.mul d)).mono (by decide)
theorem q_neg (m n : Mx) : qS m n = -qS n m ∧ qL m n = -qL n m ∧ qW m n = -qW n m := by
  unfold qS qL qW
  refine ⟨by omega, ?_, by omega⟩
  grind
theorem qv_10 (S L W : Int) : qv S L W (1, 0) = S := by
  unfold qv
  dsimp
  simp
theorem lowE_sm {S L W : Int} (sS : Sm 63 S) (sL : Sm 63 L) (sW : Sm 63 W) : Sm 65 (W - L) ∧ Sm 65 (-L) ∧ Sm 65 (2 * S) := by
  have two : Sm 2 2 := by unfold Sm; decide
  exact ⟨(sW.sub sL).mono (by decide), sL.neg.mono (by decide), two.mul sS⟩
theorem nmR_B (r m : List Pc) : nmR r m = nbB (qS (matR m) (matR r)) (qL (matR m) (matR r)) (qW (matR m) (matR r)) := rfl
def NevAt (H : Hp) (z : Addr) (r m : List Pc) : Prop := ∃ (cl em : Addr) (q1 q2 : V), H z = some (.tup [.ref cl, .ref em]) ∧ H em = some (.tup []) ∧ H cl = some (.tup [.str (Str.ofString "never"), q1, q2]) ∧ RowT H q1 r ∧ RowT H q2 m
def MorAt (aO : Addr) (H : Hp) (z : Addr) (r m : List Pc) : Prop := ∃ (cl em p : Addr) (q1 q2 : V), H z = some (.tup [.ref cl, .ref em]) ∧ H em = some (.tup []) ∧ H cl = some (.tup [.str (Str.ofString "more"), q1, q2, .ref p]) ∧ RowT H q1 r ∧ RowT H q2 m ∧ SaidAt aO H p (mlE r m)
def spCN (aO C : Addr) : Sp := fun vs H Q _ => ∃ (x y : Addr) (r m : List Pc), vs = [.ref x, .ref y] ∧ PatAt C H x r ∧ PatAt C H y m ∧ RowOk r ∧ RowOk m ∧ 1 ≤ r.length ∧ 1 ≤ m.length ∧ r.length ≤ 8 ∧ m.length ≤ 8 ∧
  (nmR r m = true → ∀ H' z, Same H H' → NevAt H' z r m → Q (.ref z) H') ∧ (nmR r m = false → ∀ H' z, Same H H' → MorAt aO H' z r m → Q (.ref z) H')
def LtAt (aO : Addr) (H : Hp) (v : V) (r : List Pc) : Prop := ((matR r).c = 0 ∧ v = .ref aO) ∨ ((matR r).c ≠ 0 ∧ ∃ t, v = .ref t ∧ H t = some (.tup [.int (eqL r).1, .int (eqL r).2.1, .int (eqL r).2.2]))
theorem LtAt.same {aO : Addr} {H H' : Hp} {v : V} {r : List Pc} (h : LtAt aO H v r) (s : Same H H') : LtAt aO H' v r := h.imp id fun ⟨a, t, e, b⟩ => ⟨a, t, e, s _ _ b⟩
def LimC (aO : Addr) (H : Hp) (z : Addr) (r : List Pc) (e : Int × Int) : Prop := ∃ (cl em lp : Addr) (q tv : V), H z = some (.tup [.ref cl, .ref em]) ∧ H em = some (.tup []) ∧ H cl = some (.tup [.str (Str.ofString "limit"), q, .ref lp, tv]) ∧ RowT H q r ∧ PairAt H lp (low e) ∧ LtAt aO H tv r
def spCL (K : PySem.W.Frag) (aO C : Addr) : Sp := fun vs H Q _ => ∃ (x : Addr) (v : V) (r : List Pc) (d : PyData), vs = [.ref x, v] ∧ PatAt C H x r ∧ RowOk r ∧ 1 ≤ r.length ∧ r.length ≤ 8 ∧ Dr H v d ∧ resG d = true ∧ ∀ H' z, Same H H' → LimC aO H' z r (prOf d) → Q (.ref z) H'
def spChkRD (K : PySem.W.Frag) : Sp := fun vs H Q _ => ∃ (v : V) (d : PyData), vs = [v] ∧ Dq K H v d ∧ resG d = true ∧ Q .non H
theorem load_in {H : Hp} {v : V} {d : PyData} (h : Dr H v d) (n : resG d = true) : ((∃ i, v = .int i ∧ prOf d = (i, 1)) ∨ (∃ p, v = .ref p ∧ H p = some (.tup [.int (prOf d).1, .int (prOf d).2]))) ∧ Pos2 (prOf d) ∧ Sm 4000 (prOf d).1 ∧ Sm 4000 (prOf d).2 := by
  obtain ⟨hn, s1, s2⟩ := res_num n
  refine ⟨?_, num_pos hn, s1.mono (by decide), s2.mono (by decide)⟩
  rcases num_of hn with ⟨i, rfl, i0⟩ | ⟨a, b, rfl, p⟩
  · cases h.toInt
    exact .inl ⟨i, rfl, rfl⟩
  · obtain ⟨t, ys, rfl, ht, hy⟩ := h.tuple
    obtain ⟨rfl⟩ : ys = [.int a, .int b] := by
      match ys, hy with
      | [x, y], hy =>
        have h1 := hy.inv.1.toInt
        have h2 := hy.inv.2.inv.1.toInt
        rw [h1, h2]
      | [], hy => exact absurd hy.1 (by simp)
      | [_], hy => exact absurd hy.1 (by simp)
      | _ :: _ :: _ :: _, hy => exact absurd hy.1 (by simp)
    exact .inr ⟨t, rfl, ht⟩
section
variable {P : Program} {w : World} {K : PySem.W.Frag} {mg : Str → Option Value} {base : Heap} {tG t1 t2 t3 tC tK tP : Tok} {aO aW aCh Ce J C fP fJ pP gP pq gq gx : Addr} {fdJ fdP fq fx : FuncData}
abbrev s_times : Stmt := top 71
theorem sc_times : FnScope ["parabola", "factor", "square", "line", "whole"] ["parabola", "factor"] (defScope s_times) := ⟨rfl, rfl, rfl, by decide +kernel, rfl, by decide +kernel, by decide +kernel⟩

theorem ok_times {f : Addr} {fd : FuncData} (F : Fun K "times" "times" s_times f fd) : FnOk P w K mg base CX0 1 f fd ["parabola", "factor"] spTimes := by
  refine F.ok sc_times (fun vs H Q E h => ?_) (fun cdv A outer s H vs Q E hr h => ?_)
  · obtain ⟨z, S, L, W, k, rfl, _⟩ := h
    rfl
  · obtain ⟨z, S, L, W, n, rfl, hz, sS, sL, sW, sn, k⟩ := h
    refine ⟨_, (pss_cons (ps_asg (pv 0) (pg_tup rfl (pgs_cons (pg_name (i := 2) sc_times.nd rfl (.inl rfl)) (pgs_cons (pg_name (i := 3) sc_times.nd rfl (.inl rfl)) (pgs_cons (pg_name (i := 4) sc_times.nd rfl (.inl rfl)) pgs_nil)))))
      (pss_one (ps_ret (pe_tup (pa_cons (pe_op op_mulX (pv 2) (pv 1)) (pa_cons (pe_op op_mulX (pv 3) (pv 1)) (pa_cons (pe_op op_mulX (pv 4) (pv 1)) pa_nil))))))), ?_⟩
    refine ⟨_, rfl, z, _, rfl, SqT.of hz, rfl, _, _, rfl, _, _, rfl, _, _, rfl, rfl, ?_⟩
    exact ⟨_, rfl, _, rfl, _, _, rfl, rfl, mx sS sn, _, rfl, _, rfl, _, _, rfl, rfl, mx sL sn, _, rfl, _, rfl, _, _, rfl, rfl, mx sW sn, (by show 3 ≤ sizeLine; decide), fun z nz => k _ z (same_upd nz) upd_same⟩
abbrev s_more_load : Stmt := top 78
theorem sc_more_load : FnScope ["pattern", "other", "gap", "load", "square", "line", "whole"] ["pattern", "other"] (defScope s_more_load) := ⟨rfl, rfl, rfl, by decide +kernel, rfl, by decide +kernel, by decide +kernel⟩

theorem ok_ml {f : Addr} {fd : FuncData} (F : Fun K "more_load" "more_load" s_more_load f fd) (T : Txt3 K mg tG t1 t2 t3 aO aW J C) (D_check_pattern : Df P w K mg base 1 "check_pattern" ["value"] (spChkP C)) (D_difference : Df P w K mg base 1 "difference" ["matrix", "other_matrix"] spDiff) (D_never_below : Df P w K mg base 4 "never_below" ["parabola", "pair", "limit"] (spNB aO)) (D_times : Df P w K mg base 1 "times" ["parabola", "factor"] spTimes) (D_sign_at : Df P w K mg base 2 "sign_at" ["parabola", "pair"] (spSAt K)) (D_lowest_terms : Df P w K mg base 2 "lowest_terms" ["top", "bottom"] spLow) : FnOk P w K mg base CX0 5 f fd ["pattern", "other"] (spML aO C) := by
  refine F.ok sc_more_load (fun vs H Q E h => ?_) (fun cdv A outer s H vs Q E hr h => ?_)
  · obtain ⟨x, y, r, r', rfl, _⟩ := h
    rfl
  · obtain ⟨x, y, r, r', rfl, hx, hy, ok, ok', l8, l8', kN, kS⟩ := h
    refine ⟨_, (pss_cons (ps_expr (pe_df D_check_pattern (hr.mono (by decide)) (by rfl) (pa_cons (pv 0) pa_nil)))
      (pss_cons (ps_expr (pe_df D_check_pattern (hr.mono (by decide)) (by rfl) (pa_cons (pv 1) pa_nil)))
      (pss_cons (ps_set (i := 2) sc_more_load.nd rfl (.inl rfl) (pe_df D_difference (hr.mono (by decide)) (by rfl) (pa_cons (pe_fld (pv 0) rfl) (pa_cons (pe_fld (pv 1) rfl) pa_nil))))
      (pss_cons (ps_if (pt_val (pe_df D_never_below (hr.mono (by decide)) (by rfl) (pa_cons (pe_df D_times (hr.mono (by decide)) (by rfl) (pa_cons (pv 2) (pa_cons (pe_un un_neg pe_int) pa_nil))) (pa_cons (pe_tup (pa_cons pe_int (pa_cons pe_int pa_nil))) (pa_cons (pe_glob (v := .ref aO) rfl T.mgO rfl) pa_nil))))) (pss_one (ps_ret pe_non)) pss_nil)
      (pss_cons (ps_for PassesOwn.never rfl (pi_tup (pe_tup (pa_cons (pe_tup (pa_cons pe_int (pa_cons pe_int pa_nil))) (pa_cons (pe_glob (v := .ref aO) rfl T.mgO rfl) pa_nil)))) (pg_name (i := 3) sc_more_load.nd rfl (.inl rfl)) (pss_one (ps_if (pt_cmpR op_gt (pe_df D_sign_at (hr.mono (by decide)) (by rfl) (pa_cons (pv 2) (pa_cons (pv 3) pa_nil))) pe_int (nomark _)) (pss_one (ps_ret (pv 3))) pss_nil)))
      (pss_cons (ps_asg (pv 2) (pg_tup rfl (pgs_cons (pg_name (i := 4) sc_more_load.nd rfl (.inl rfl)) (pgs_cons (pg_name (i := 5) sc_more_load.nd rfl (.inl rfl)) (pgs_cons (pg_name (i := 6) sc_more_load.nd rfl (.inl rfl)) pgs_nil)))))
      (pss_cons (ps_if (pt_cmpR op_eq (pv 4) pe_int (nomark _)) (pss_one (ps_ret (pe_df D_lowest_terms (hr.mono (by decide)) (by rfl) (pa_cons (pe_op op_sub (pv 5) (pv 6)) (pa_cons (pv 5) pa_nil))))) pss_nil)
      (pss_one (ps_ret (pe_df D_lowest_terms (hr.mono (by decide)) (by rfl) (pa_cons (pv 5) (pa_cons (pe_op op_mulX (pe_un un_neg pe_int) (pv 4)) pa_nil)))))))))))), ?_⟩
    have ms := matR_sm30 ok l8
    have ms' := matR_sm30 ok' l8'
    obtain ⟨sS, sL, sW⟩ := q_sm63 ms' ms
    obtain ⟨n1, n2, n3⟩ := q_neg (matR r) (matR r')
    obtain ⟨dx, q, m, f', ws, f1, f2, f3, f4, hix, hq, hw, hm, _⟩ := hx
    obtain ⟨dy, q', m', f'', ws', g1, g2, g3, g4, hiy, hq', hw', hm', _⟩ := hy
    refine ⟨_, rfl, x, dx, _, rfl, hix, _, rfl, y, dy, _, rfl, hiy, ?_⟩
    refine ⟨_, rfl, x, C, dx, _, _, rfl, hix, T.cl, T.nMat, lkM _ _ _, _, rfl, y, C, dy, _, _, rfl, hiy, T.cl, T.nMat, lkM _ _ _, m, m', _, _, rfl, hm, hm', ms, ms', fun H1 z s1 hz => ?_⟩
    rw [n1, n2, n3] at hz
    unfold nmR at kN kS
    unfold mlE at kS
    generalize qS (matR r') (matR r) = S at *
    generalize qL (matR r') (matR r) = L at *
    generalize qW (matR r') (matR r) = W at *
    have e1 : -S * -1 = S := by omega
    have e2 : -L * -1 = L := by omega
    have e3 : -W * -1 = W := by omega
    obtain ⟨u1, u2, u3⟩ := lowE_sm sS sL sW
    refine ⟨_, rfl, _, rfl, z, -S, -L, -W, -1, rfl, hz, sS.neg.mono (by decide), sL.neg.mono (by decide), sW.neg.mono (by decide), by unfold Sm; decide, fun H2 z2 s2 hz2 => ?_⟩
    rw [e1, e2, e3] at hz2
    refine ⟨(by show 2 ≤ sizeLine; decide), fun p np => ?_⟩
    have sp := same_upd (o := .tup [.int 0, .int 1]) np
    refine ⟨z2, p, S, L, W, rfl, sp _ _ hz2, upd_same, sS.mono (by decide), sL.mono (by decide), sW.mono (by decide), fun H3 s3 => ?_⟩
    have s13 := (s2.trans sp).trans s3
    have hz3 := s13 _ _ hz
    refine ⟨_, rfl, ite2 (fun e => kN e _ (s1.trans s13)) (fun e => ?_)⟩
    have e0 : nbB S L W = false := by
      cases hb : nbB S L W with
      | true => exact absurd hb e
      | false => rfl
    have s03 := s1.trans s13
    have lp := lowE_pos e0
    have ln := nb_not e0
    replace kS := kS e0
    unfold lowE at kS lp
    refine ⟨(by show 2 ≤ sizeLine; decide), fun p0 np0 => ⟨(by show 2 ≤ sizeLine; decide), fun t nt => ?_⟩⟩
    have q0 := same_upd (o := .tup [.int 0, .int 1]) np0
    have qt := same_upd (o := .tup [.ref p0, .ref aO]) nt
    have hp0 : PairAt (upd (upd H3 p0 (.tup [.int 0, .int 1])) t (.tup [.ref p0, .ref aO])) p0 (0, 1) := qt _ _ upd_same
    have ht : (upd (upd H3 p0 (.tup [.int 0, .int 1])) t (.tup [.ref p0, .ref aO])) t = some (.tup [.ref p0, .ref aO]) := upd_same
    have hz4 := (q0.trans qt) _ _ hz3
    have s04 := s03.trans (q0.trans qt)
    generalize upd (upd H3 p0 (.tup [.int 0, .int 1])) t (.tup [.ref p0, .ref aO]) = H4 at *
    refine ⟨t, rfl, ⟨_, SqT.of ht⟩, ?_⟩
    refine for_tup (K := K) (a := t) (xs := [.ref p0, .ref aO]) (fun i σ H' => H4 = H' ∧ (∃ v, σ = [some (.ref x), some (.ref y), some (.ref z), v, none, none, none]) ∧ (1 ≤ i → ¬ W < 0) ∧ (2 ≤ i → ¬ S < 0)) ⟨rfl, ⟨none, rfl⟩, fun z => by omega, fun z => by omega⟩ (fun i σ H' _ h => h.1 ▸ SqT.of ht) ?_ ?_
    · rintro i v σ _ hi ⟨rfl, ⟨w, rfl⟩, h1, h2⟩
      match i, hi with
      | 0, hi =>
        cases hi
        refine ⟨_, rfl, _, rfl, z, p0, -S, -L, -W, (0, 1), rfl, hz4, SqT.of hp0, sS.neg.mono (by decide), sL.neg.mono (by decide), sW.neg.mono (by decide), by unfold Sm; decide, by unfold Sm; decide, _, _, rfl, rfl, _, rfl, ite2 (fun e => ?_) (fun e => ?_)⟩
        · have e5 := of_decide_eq_true e
          rw [qv_01] at e5
          replace e5 := sgn_gt.mp e5
          rw [if_pos (by omega)] at kS
          exact ⟨_, rfl, kS _ p0 s04 (.inl hp0)⟩
        · have e5 : ¬ W < 0 := fun z => e (decide_eq_true (by rw [qv_01]; exact sgn_gt.mpr (by omega)))
          exact ⟨rfl, ⟨_, rfl⟩, fun _ => e5, fun z => by omega⟩
      | 1, hi =>
        cases hi
        have w0 := h1 (by omega)
        refine ⟨_, rfl, _, rfl, z, aO, -S, -L, -W, (1, 0), rfl, hz4, .inr T.opn, sS.neg.mono (by decide), sL.neg.mono (by decide), sW.neg.mono (by decide), by unfold Sm; decide, by unfold Sm; decide, _, _, rfl, rfl, _, rfl, ite2 (fun e => ?_) (fun e => ?_)⟩
        · have e5 := of_decide_eq_true e
          rw [qv_10] at e5
          replace e5 := sgn_gt.mp e5
          rw [if_neg w0, if_pos (by omega)] at kS
          exact ⟨_, rfl, kS _ aO s04 (.inr ⟨rfl, by decide⟩)⟩
        · have e5 : ¬ S < 0 := fun z => e (decide_eq_true (by rw [qv_10]; exact sgn_gt.mpr (by omega)))
          exact ⟨rfl, ⟨_, rfl⟩, fun _ => w0, fun _ => e5⟩
    · rintro σ _ ⟨rfl, ⟨w, rfl⟩, h1, h2⟩
      have w0 := h1 (by show 1 ≤ 2; decide)
      have s0 := h2 (by show 2 ≤ 2; decide)
      rw [if_neg w0, if_neg s0] at kS lp
      refine ⟨_, rfl, z, _, rfl, SqT.of hz4, rfl, _, _, rfl, _, _, rfl, _, _, rfl, rfl, ?_⟩
      refine ⟨_, rfl, rfl, _, rfl, ite2 (fun e => ?_) (fun e => ?_)⟩
      · have e5 : -S = 0 := V.int.inj (of_decide_eq_true e)
        rw [if_pos (show S = 0 by omega)] at kS lp
        have e6 : -L - -W = W - L := by omega
        refine ⟨_, rfl, _, rfl, _, _, rfl, rfl, _, rfl, W - L, -L, (by show [V.int (-L - -W), V.int (-L)] = _; rw [e6]), lp, u1.mono (by decide), u2.mono (by decide), fun H5 p' s5 np' hp' => ?_⟩
        exact kS _ p' (s04.trans s5) (.inl hp')
      · have e5 : ¬ -S = 0 := fun z => e (decide_eq_true (congrArg V.int z))
        rw [if_neg (show ¬ S = 0 by omega)] at kS lp
        have e6 : -2 * -S = 2 * S := by omega
        refine ⟨_, rfl, _, rfl, _, rfl, _, _, rfl, rfl, mx (a := 3) (i := -2) (by unfold Sm; decide) sS.neg, -L, 2 * S, (by show [V.int (-L), V.int (-2 * -S)] = _; rw [e6]), lp, u2.mono (by decide), u3.mono (by decide), fun H5 p' s5 np' hp' => ?_⟩
        exact kS _ p' (s04.trans s5) (.inl hp')
abbrev s_check_resistance : Stmt := top 56
theorem sc_check_resistance : FnScope ["value"] ["value"] (defScope s_check_resistance) := ⟨rfl, rfl, rfl, by decide +kernel, rfl, by decide +kernel, by decide +kernel⟩

theorem ok_chkrD {f : Addr} {fd : FuncData} (F : Fun K "check_resistance" "check_resistance" s_check_resistance f fd) (D_is_resistance : Df P w K mg base 3 "is_resistance" ["value"] (spResG K)) : FnOk P w K mg base CX0 4 f fd ["value"] (spChkRD K) := by
  refine F.ok sc_check_resistance (fun vs H Q E h => ?_) (fun cdv A outer s H vs Q E hr h => ?_)
  · obtain ⟨v, d, rfl, _⟩ := h
    rfl
  · obtain ⟨v, d, rfl, hd, hn, k⟩ := h
    refine ⟨_, (pss_one (ps_if (pt_not (pt_val (pe_df D_is_resistance (hr.mono (by decide)) (by rfl) (pa_cons (pv 0) pa_nil)))) (pss_one ps_never) pss_nil)), ?_⟩
    refine ⟨_, rfl, v, d, rfl, hd, _, rfl, ?_⟩
    rw [hn]
    exact iteF k
abbrev s_certify_never : Stmt := top 80
theorem sc_certify_never : FnScope ["pattern", "other", "load"] ["pattern", "other"] (defScope s_certify_never) := ⟨rfl, rfl, rfl, by decide +kernel, rfl, by decide +kernel, by decide +kernel⟩

theorem ok_cn {f : Addr} {fd : FuncData} (F : Fun K "certify_never" "certify_never" s_certify_never f fd) (T : Txt3 K mg tG t1 t2 t3 aO aW J C) (OPi : OwPi P w K mg base C pP gP fdP) (D_more_load : Df P w K mg base 5 "more_load" ["pattern", "other"] (spML aO C)) : FnOk P w K mg base CX0 6 f fd ["pattern", "other"] (spCN aO C) := by
  refine F.ok sc_certify_never (fun vs H Q E h => ?_) (fun cdv A outer s H vs Q E hr h => ?_)
  · obtain ⟨x, y, r, m, rfl, _⟩ := h
    rfl
  · obtain ⟨x, y, r, m, rfl, hx, hy, ok, ok', l1, l1', l8, l8', kN, kS⟩ := h
    have TPC := T
    refine ⟨_, (pss_cons (ps_set (i := 2) sc_certify_never.nd rfl (.inl rfl) (pe_df D_more_load (hr.mono (by decide)) (by rfl) (pa_cons (pv 0) (pa_cons (pv 1) pa_nil))))
      (pss_cons (ps_if (pt_cmpR op_isN (pv 2) pe_non (nomark _)) (pss_one (ps_ret (pe_tup (pa_cons (pe_tup (pa_cons pe_str (pa_cons (pe_prop (pv 0) TPC.cl OPi.pr OPi.ok (hr.mono (by decide)) OPi.b .nil pass0 rfl) (pa_cons (pe_prop (pv 1) TPC.cl OPi.pr OPi.ok (hr.mono (by decide)) OPi.b .nil pass0 rfl) pa_nil)))) (pa_cons (pe_tup pa_nil) pa_nil))))) pss_nil)
      (pss_one (ps_ret (pe_tup (pa_cons (pe_tup (pa_cons pe_str (pa_cons (pe_prop (pv 0) TPC.cl OPi.pr OPi.ok (hr.mono (by decide)) OPi.b .nil pass0 rfl) (pa_cons (pe_prop (pv 1) TPC.cl OPi.pr OPi.ok (hr.mono (by decide)) OPi.b .nil pass0 rfl) (pa_cons (pv 2) pa_nil))))) (pa_cons (pe_tup pa_nil) pa_nil))))))), ?_⟩
    obtain ⟨dx, _, _, _, _, _, _, _, _, hix, _⟩ := id hx
    obtain ⟨dy, _, _, _, _, _, _, _, _, hiy, _⟩ := id hy
    refine ⟨_, rfl, _, rfl, x, y, r, m, rfl, hx, hy, ok, ok', l8, l8', fun e H1 s1 => ?_, fun e H1 p s1 hp => ?_⟩
    · refine ⟨_, rfl, rfl, _, rfl, iteT ?_⟩
      refine ⟨_, rfl, x, dx, _, rfl, s1 _ _ hix, x, r, rfl, hx.same s1, fun q1 ws1 hq1 hw1 => ⟨_, rfl, y, dy, _, rfl, s1 _ _ hiy, y, m, rfl, hy.same s1, fun q2 ws2 hq2 hw2 => ⟨(by show 3 ≤ sizeLine; decide), fun cl ncl => ⟨(by show 0 ≤ sizeLine; decide), fun em nem => ⟨(by show 2 ≤ sizeLine; decide), fun z nz => ?_⟩⟩⟩⟩⟩
      have s2 := same_upd (o := .tup [.str (Str.ofString "never"), .ref q1, .ref q2]) ncl
      have s3 := same_upd (o := .tup []) nem
      have s4 := same_upd (o := .tup [.ref cl, .ref em]) nz
      have s24 := (s2.trans s3).trans s4
      exact kN e _ z (s1.trans s24) ⟨cl, em, .ref q1, .ref q2, upd_same, s4 _ _ upd_same, (s3.trans s4) _ _ upd_same, RowT.same ⟨q1, ws1, rfl, hq1, hw1, ok, l1, l8⟩ s24, RowT.same ⟨q2, ws2, rfl, hq2, hw2, ok', l1', l8'⟩ s24⟩
    · refine ⟨_, rfl, rfl, _, rfl, iteF ?_⟩
      refine ⟨_, rfl, x, dx, _, rfl, s1 _ _ hix, x, r, rfl, hx.same s1, fun q1 ws1 hq1 hw1 => ⟨_, rfl, y, dy, _, rfl, s1 _ _ hiy, y, m, rfl, hy.same s1, fun q2 ws2 hq2 hw2 => ⟨_, rfl, (by show 4 ≤ sizeLine; decide), fun cl ncl => ⟨(by show 0 ≤ sizeLine; decide), fun em nem => ⟨(by show 2 ≤ sizeLine; decide), fun z nz => ?_⟩⟩⟩⟩⟩
      have s2 := same_upd (o := .tup [.str (Str.ofString "more"), .ref q1, .ref q2, .ref p]) ncl
      have s3 := same_upd (o := .tup []) nem
      have s4 := same_upd (o := .tup [.ref cl, .ref em]) nz
      have s24 := (s2.trans s3).trans s4
      exact kS e _ z (s1.trans s24) ⟨cl, em, p, .ref q1, .ref q2, upd_same, s4 _ _ upd_same, (s3.trans s4) _ _ upd_same, RowT.same ⟨q1, ws1, rfl, hq1, hw1, ok, l1, l8⟩ s24, RowT.same ⟨q2, ws2, rfl, hq2, hw2, ok', l1', l8'⟩ s24, hp.same s24⟩
abbrev s_certify_limit : Stmt := top 81
theorem sc_certify_limit : FnScope ["pattern", "load", "limit", "told"] ["pattern", "load"] (defScope s_certify_limit) := ⟨rfl, rfl, rfl, by decide +kernel, rfl, by decide +kernel, by decide +kernel⟩

theorem ok_cl {f : Addr} {fd : FuncData} (F : Fun K "certify_limit" "certify_limit" s_certify_limit f fd) (T : TxtX K mg w tG t1 t3 tC tK tP aO aW aCh Ce) (T3 : Txt3 K mg tG t1 t2 t3 aO aW J C) (OPi : OwPi P w K mg base C pP gP fdP) (OX : OwX P w K mg base Ce aO gx fx) (OQ : OwQ P w K mg base Ce pq gq fq) (D_check_pattern : Df P w K mg base 1 "check_pattern" ["value"] (spChkP C)) (D_check_resistance : Df P w K mg base 4 "check_resistance" ["value"] (spChkRD K)) (D_ladder_limit : Df P w K mg base 7 "ladder_limit" ["matrix"] (spLim aO Ce)) (D_lowest_pair : Df P w K mg base 3 "lowest_pair" ["fraction_or_open"] spLowP) : FnOk P w K mg base CX0 8 f fd ["pattern", "load"] (spCL K aO C) := by
  refine F.ok sc_certify_limit (fun vs H Q E h => ?_) (fun cdv A outer s H vs Q E hr h => ?_)
  · obtain ⟨x, v, r, d, rfl, _⟩ := h
    rfl
  · obtain ⟨x, v, r, d, rfl, hx, ok, l1, l8, hd, hn, k⟩ := h
    have TPC := T3
    refine ⟨_, (pss_cons (ps_expr (pe_df D_check_pattern (hr.mono (by decide)) (by rfl) (pa_cons (pv 0) pa_nil)))
      (pss_cons (ps_expr (pe_df D_check_resistance (hr.mono (by decide)) (by rfl) (pa_cons (pv 1) pa_nil)))
      (pss_cons (ps_set (i := 2) sc_certify_limit.nd rfl (.inl rfl) (pe_df D_ladder_limit (hr.mono (by decide)) (by rfl) (pa_cons (pe_fld (pv 0) rfl) pa_nil)))
      (C8.pss_cut (ps_set (i := 3) sc_certify_limit.nd rfl (.inl rfl) (pe_ifExp (pt_cmpR (op_or2 (op_eqD hr.units) (op_eqOwn OX.e_at OX.e_fn OX.ok OX.b (hr.mono (by decide)))) (pv 2) (pe_glob (v := .ref aO) rfl T.mgO rfl) (nomark _)) (pe_glob (v := .ref aO) rfl T.mgO rfl) (pe_prop (pv 2) T.clE OQ.pr OQ.ok (hr.mono (by decide)) OQ.b .nil pass0 rfl)))
      (pss_one (ps_ret (pe_tup (pa_cons (pe_tup (pa_cons pe_str (pa_cons (pe_prop (pv 0) TPC.cl OPi.pr OPi.ok (hr.mono (by decide)) OPi.b .nil pass0 rfl) (pa_cons (pe_df D_lowest_pair (hr.mono (by decide)) (by rfl) (pa_cons (pv 1) pa_nil)) (pa_cons (pv 3) pa_nil))))) (pa_cons (pe_tup pa_nil) pa_nil))))))))), ?_⟩
    obtain ⟨dx, q0, mx0, _, _, _, _, _, _, hix, _, _, hm, _⟩ := id hx
    refine ⟨_, rfl, x, dx, _, rfl, hix, ?_⟩
    refine ⟨_, rfl, v, d, rfl, hd.dq (num_nd (res_num hn).1), hn, ?_⟩
    refine ⟨_, rfl, x, C, dx, _, _, rfl, hix, T3.cl, T3.nMat, lkM _ _ _, mx0, r, rfl, hm, ok, l8, fun H1 lv s1 hlv => ?_⟩
    have dpo : ∀ {HH : Hp}, Dp K HH (.ref aO) (.tuple [.int 1, .int 0]) := fun {HH} => .tup (.inr T.opn) (.cons (.int _) (.cons (.int _) .nil))
    have ds1 := hd.mono s1
    refine ⟨fun σ' H' => ∃ tv, σ' = [some (.ref x), some v, some lv, some tv] ∧ Same H H' ∧ LtAt aO H' tv r, ?_, ?_⟩
    · refine ⟨_, rfl, ?_⟩
      rcases hlv with ⟨c0, rfl⟩ | ⟨cn, y, rfl, hy⟩
      · refine .inl ⟨_, _, dpo, dpo, rfl, rfl, _, rfl, ite2 (fun _ => ?_) (fun e => absurd (SeqAt.eqv_refl _ (by decide +kernel)) e)⟩
        exact ⟨_, rfl, s1, .inl ⟨c0, rfl⟩⟩
      · obtain ⟨dy, qy, hiy, hqy⟩ := id hy
        refine .inr ⟨y, dy, _, _, rfl, hiy, ty_dp (d := .tuple [.int 1, .int 0]) dpo, OX.nf, y, dy, _, rfl, hiy, _, rfl, ite2 (fun e => absurd e (by decide)) (fun _ => ?_)⟩
        refine ⟨_, rfl, y, dy, _, rfl, hiy, y, dy, qy, rfl, hiy, ?_⟩
        exact ⟨_, rfl, s1, .inr ⟨cn, qy, rfl, hqy⟩⟩
    rintro σ1 H2 ⟨tv, rfl, s2, ht⟩
    refine ⟨_, rfl, x, dx, _, rfl, s2 _ _ hix, x, r, rfl, hx.same s2, fun q1 ws1 hq1 hw1 => ⟨_, rfl, ?_⟩⟩
    obtain ⟨li, lp2, ls1, ls2⟩ := load_in (hd.mono s2) hn
    refine ⟨v, prOf d, rfl, li, lp2, ls1, ls2, fun H3 lp s3 nlp hlp => ?_⟩
    refine ⟨_, rfl, (by show 4 ≤ sizeLine; decide), fun cl ncl => ⟨(by show 0 ≤ sizeLine; decide), fun em nem => ⟨(by show 2 ≤ sizeLine; decide), fun z nz => ?_⟩⟩⟩
    have s4 := same_upd (o := .tup [.str (Str.ofString "limit"), .ref q1, .ref lp, tv]) ncl
    have s5 := same_upd (o := .tup []) nem
    have s6 := same_upd (o := .tup [.ref cl, .ref em]) nz
    have s46 := (s4.trans s5).trans s6
    exact k _ z (s2.trans (s3.trans s46)) ⟨cl, em, lp, .ref q1, tv, upd_same, s6 _ _ upd_same, (s5.trans s6) _ _ upd_same, RowT.same ⟨q1, ws1, rfl, hq1, hw1, ok, l1, l8⟩ (s3.trans s46), s46 _ _ hlp, ht.same (s3.trans s46)⟩
end
end RL

set_option maxHeartbeats 4000000
namespace RL
open PySem L2 PySem.Spec PyProof.Rows
theorem sqT_up {K : PySem.W.Frag} {H H' : Hp} {a : Addr} {xs : List V} (h : SqT K H a xs) (s : Same H H') : SqT K H' a xs := by
  rcases h with (h | ⟨o, h⟩) | h
  · exact .inl (.inl (s _ _ h))
  · exact .inl (.inr ⟨o, s _ _ h⟩)
  · exact .inr h
def prD (e : Int × Int) : PyData := .tuple [.int e.1, .int e.2]
def rowD (r : List Pc) : PyData := .tuple (r.map pcD)
theorem dp_pr {K : PySem.W.Frag} {H : Hp} {p : Addr} {e : Int × Int} (h : PrT K H p e) : Dp K H (.ref p) (prD e) := .tup h (.cons (.int _) (.cons (.int _) .nil))
theorem row_nodict {r : List Pc} (ok : RowOk r) (l1 : 1 ≤ r.length) (l8 : r.length ≤ 8) : (rowD r).hasDict = false := by
  rcases row_nd (rowD_ok ok l1 l8) with n | n
  · exact n
  · cases n
theorem row_g {H : Hp} {v : V} {r : List Pc} (h : RowT H v r) : rowG (rowD r) = true := by
  obtain ⟨_, _, _, _, _, ok, l1, l8⟩ := h
  exact rowD_ok ok l1 l8
theorem row_dp {K : PySem.W.Frag} {H : Hp} {v : V} {r : List Pc} (h : RowT H v r) : Dp K H v (rowD r) := by
  obtain ⟨q, ws, rfl, hq, hw, _⟩ := h
  exact dp_row hw hq
theorem row_dq {K : PySem.W.Frag} {H : Hp} {v : V} {r : List Pc} (h : RowT H v r) : Dq K H v (rowD r) := by
  obtain ⟨_, _, _, _, _, ok, l1, l8⟩ := id h
  exact .dp (row_dp h) (row_nodict ok l1 l8)
theorem em_dp {K : PySem.W.Frag} {H : Hp} {a : Addr} (h : H a = some (.tup [])) : Dp K H (.ref a) (.tuple []) := .tup (SqT.of h) .nil
theorem em_dq {K : PySem.W.Frag} {H : Hp} {a : Addr} (h : H a = some (.tup [])) : Dq K H (.ref a) (.tuple []) := .dp (em_dp h) rfl
theorem pr_dq {K : PySem.W.Frag} {H : Hp} {p : Addr} {e : Int × Int} (h : PrT K H p e) : Dq K H (.ref p) (prD e) := .dp (dp_pr h) rfl
def spNeT : Sp := fun vs H Q _ => ∃ (t em : Addr) (q1 q2 : V) (r m : List Pc), vs = [.ref t, .ref em] ∧ H t = some (.tup [q1, q2]) ∧ H em = some (.tup []) ∧ RowT H q1 r ∧ RowT H q2 m ∧ nmR r m = true ∧ ∀ H', Same H H' → Q (.bl true) H'
def spMoT (K : PySem.W.Frag) : Sp := fun vs H Q _ => ∃ (t em p : Addr) (q1 q2 : V) (r m : List Pc) (e : Int × Int), vs = [.ref t, .ref em] ∧ H t = some (.tup [q1, q2, .ref p]) ∧ H em = some (.tup []) ∧ RowT H q1 r ∧ RowT H q2 m ∧ PrT K H p e ∧ numG (prD e) = true ∧ Sm 100 e.1 ∧ Sm 100 e.2 ∧ 0 < oP ((matR r).app e) ((matR m).app e) ∧ ∀ H', Same H H' → Q (.bl true) H'
def spLiT (aO : Addr) : Sp := fun vs H Q _ => ∃ (t em lp : Addr) (q tv : V) (r : List Pc) (e : Int × Int), vs = [.ref t, .ref em] ∧ H t = some (.tup [q, .ref lp, tv]) ∧ H em = some (.tup []) ∧ RowT H q r ∧ PairAt H lp e ∧ resG (prD e) = true ∧ LtAt aO H tv r ∧ ∀ H', Same H H' → Q (.bl true) H'
def spAccT (K : PySem.W.Frag) (aCh : Addr) (S : Addr → Option Sp) : Sp := fun vs H Q _ => ∃ (t em f : Addr) (s : Str) (ys : List V) (sp : Sp), vs = [.ref t, .ref em] ∧ H t = some (.tup (.str s :: ys)) ∧ PySem.W.nsIn K aCh s = some (some (.ref f)) ∧ S f = some sp ∧ ∀ H' t', Same H H' → H' t' = some (.tup ys) → sp [.ref t', .ref em] H' Q (fun _ _ _ => False)
def spPrT (K : PySem.W.Frag) : Sp := fun vs H Q _ => ∃ (p : Addr) (e : Int × Int), vs = [.ref p] ∧ PrT K H p e ∧ Q (.ref p) H
def spShownT (K : PySem.W.Frag) : Sp := fun vs H Q _ => ∃ (a b : Addr) (m : Mx) (e : Int × Int), vs = [.ref a, .ref b] ∧ H a = some (.tup (MatT m)) ∧ PrT K H b e ∧ MxSm 3000 m ∧ Sm 4000 e.1 ∧ Sm 4000 e.2 ∧
  ∀ H' p, Same H H' → H p = none → PairAt H' p (m.app e) → Q (.ref p) H'
def spIsNumT (K : PySem.W.Frag) : Sp := fun vs H Q _ => ∃ (p : Addr) (e : Int × Int), vs = [.ref p] ∧ PrT K H p e ∧ 0 ≤ e.1 ∧ (0 < e.2 ∨ e = (1, 0)) ∧ ∀ H', Same H H' → Q (.bl true) H'
def spFracT (K : PySem.W.Frag) : Sp := fun vs H Q _ => ∃ (p : Addr) (e : Int × Int), vs = [.ref p] ∧ PrT K H p e ∧ Pos2 e ∧ Sm 4000 e.1 ∧ Sm 4000 e.2 ∧ ∀ H' q, Same H H' → PairAt H' q (low e) → Q (.ref q) H'
def spLedT (K : PySem.W.Frag) : Sp := fun vs H Q _ => ∃ (v : V) (t : Addr) (r : List Pc) (e : Int × Int), vs = [v, .ref t] ∧ RowT H v r ∧ PrT K H t e ∧ Sm 3900 e.1 ∧ Sm 3900 e.2 ∧ ∀ H' p, Same H H' → H p = none → PairAt H' p (actR r e) → Q (.ref p) H'
section
variable {P : Program} {w : World} {K : PySem.W.Frag} {mg : Str → Option Value} {base : Heap} {tG t1 t3 tC tK tP : Tok} {aO aW aCh Ce pq gq gx : Addr} {fq fx : FuncData}
theorem ok_accT {S : Addr → Option Sp} {f : Addr} {fd : FuncData} (F : Fun K "accepts" "accepts" s_accepts f fd) (T : TxtA K mg w tG t1 t3 tC tK aO aW aCh) (HC : ∀ f sp, S f = some sp → Held P w K mg base 8 f sp) : FnOk P w K mg base CX0 9 f fd ["claim", "certificate"] (spAccT K aCh S) := by
  refine F.ok sc_accepts (fun vs H Q E h => ?_) (fun cdv A outer s H vs Q E hr h => ?_)
  · obtain ⟨t, em, fc, s, ys, sp, rfl, _⟩ := h
    rfl
  · obtain ⟨t, em, fc, s, yr, sp, rfl, ht, hn, hS, q⟩ := h
    refine ⟨_, (pss_cons (ps_if (PW.pt (pw_or (pt_not (pt_val (pe_callB call_isi (by rfl) T.isinstance (by decide +kernel) (pa_cons (pv 0) (pa_cons (pe_bltn (v := .ty "tuple") (by rfl) T.tuple_ (by decide +kernel) rfl) pa_nil))))) (pw_or (pt_cmpR op_lt (pe_callB call_len_seq (by rfl) T.len (by decide +kernel) (pa_cons (pv 0) pa_nil)) pe_int (nomark _)) (pw_or1 (pt_not (pt_val (pe_callB call_isi (by rfl) T.isinstance (by decide +kernel) (pa_cons (pe_ix ix_tup (pv 0) pe_int (fun _ _ => rfl)) (pa_cons (pe_bltn (v := .ty "str") (by rfl) T.str_ (by decide +kernel) rfl) pa_nil))))))))) (pss_one (ps_ret pe_bl)) pss_nil)
      (pss_cons (ps_set (i := 2) sc_accepts.nd rfl (.inl rfl) (pe_dgetK (pe_glob (v := .ref aCh) rfl T.mgCh rfl) (pe_ix ix_tup (pv 0) pe_int (fun _ _ => rfl))))
      (pss_cons (ps_if (pt_cmpR op_isN (pv 2) pe_non (nomark _)) (pss_one (ps_ret pe_bl)) pss_nil)
      (pss_one (ps_ret (pe_callA (i := 2) HC (hr.mono (by decide)) rfl (.inl rfl) (pa_cons (pe_slice sl_tup (pv 0) (po_some pe_int) po_none) (pa_cons (pv 1) pa_nil)))))))), ?_⟩
    refine ⟨_, rfl, _, _, _, _, true, rfl, .ty _, .base (.tup ht), kit_ty (by decide +kernel), _, rfl, ?_⟩
    refine iteF ⟨_, rfl, t, _, rfl, .inr (SqT.of ht), _, _, rfl, rfl, _, rfl, ite2 (fun e => ?_) (fun e => ?_)⟩
    · have := of_decide_eq_true e
      rw [List.length_cons] at this
      omega
    refine ⟨_, rfl, t, _, _, _, rfl, rfl, SqT.of ht, atI_nat (j := 0) rfl, _, _, _, _, true, rfl, .ty _, .base (.str _), kit_ty (by decide +kernel), _, rfl, ?_⟩
    obtain ⟨es, n, D⟩ := T.chk
    refine iteF ?_
    refine ⟨aCh, es, n, rfl, D, _, rfl, t, _, _, _, rfl, rfl, SqT.of ht, atI_nat (j := 0) rfl, s, some (.ref fc), .ref fc, rfl, hn, rfl, ?_⟩
    refine ⟨_, rfl, rfl, _, rfl, iteF ?_⟩
    refine ⟨fc, sp, rfl, hS, _, rfl, 1, rfl, t, _, rfl, SqT.of ht, ?_, fun p np => ?_⟩
    · rw [HT.sIx_none]
      show ¬ (HT.sIx _ 0 (some ((1 : Nat) : Int)) = 0 ∧ _)
      rw [HT.sIx_nat]
      intro z
      have := z.1
      rw [List.length_cons] at this
      omega
    have sp' := same_upd (o := .tup (cutV (V.str s :: yr) (some 1) none)) np
    refine ⟨_, rfl, q _ p sp' ?_⟩
    rw [upd_same]
    have := cut_tail1 (V.str s) yr
    rw [this]
theorem ok_ckneT {f : Addr} {fd : FuncData} (F : Fun K "check_never" "check_never" s_check_never f fd) (T : TxtA K mg w tG t1 t3 tC tK aO aW aCh) (D_is_empty : Df P w K mg base 1 "is_empty" ["value"] (spEmptyG K)) (D_is_row : Df P w K mg base 4 "is_row" ["value"] (spRowG K)) (D_matrix_of : Df P w K mg base 2 "matrix_of" ["row"] spMatOf) (D_difference : Df P w K mg base 1 "difference" ["matrix", "other_matrix"] spDiff) (D_never_below : Df P w K mg base 4 "never_below" ["parabola", "pair", "limit"] (spNB aO)) : FnOk P w K mg base CX0 5 f fd ["places", "certificate"] spNeT := by
  refine F.ok sc_check_never (fun vs H Q E h => ?_) (fun cdv A outer s H vs Q E hr h => ?_)
  · obtain ⟨t, em, q1, q2, r, m, rfl, _⟩ := h
    rfl
  · obtain ⟨t, em, vr, vm, r, m, rfl, ht, hem, hrow, hmrow, hnm, k⟩ := h
    refine ⟨_, (pss_cons (ps_if (PW.pt (pw_or (pt_cmpR op_ne (pe_callB call_len_seq (by rfl) T.len (by decide +kernel) (pa_cons (pv 0) pa_nil)) pe_int (nomark _)) (pw_or (pt_not (pt_val (pe_df D_is_empty (hr.mono (by decide)) (by rfl) (pa_cons (pv 1) pa_nil)))) (pw_or (pt_not (pt_val (pe_df D_is_row (hr.mono (by decide)) (by rfl) (pa_cons (pe_ix ix_tup (pv 0) pe_int (fun _ _ => rfl)) pa_nil)))) (pw_or1 (pt_not (pt_val (pe_df D_is_row (hr.mono (by decide)) (by rfl) (pa_cons (pe_ix ix_tup (pv 0) pe_int (fun _ _ => rfl)) pa_nil))))))))) (pss_one (ps_ret pe_bl)) pss_nil)
      (pss_one (ps_ret (pe_df D_never_below (hr.mono (by decide)) (by rfl) (pa_cons (pe_df D_difference (hr.mono (by decide)) (by rfl) (pa_cons (pe_df D_matrix_of (hr.mono (by decide)) (by rfl) (pa_cons (pe_ix ix_tup (pv 0) pe_int (fun _ _ => rfl)) pa_nil)) (pa_cons (pe_df D_matrix_of (hr.mono (by decide)) (by rfl) (pa_cons (pe_ix ix_tup (pv 0) pe_int (fun _ _ => rfl)) pa_nil)) pa_nil))) (pa_cons (pd_tup (pds_cons pd_int (pds_cons pd_int pds_nil))) (pa_cons (pe_glob (v := .ref aO) rfl T.mgO rfl) pa_nil))))))), ?_⟩
    refine ⟨_, rfl, t, _, rfl, .inr (SqT.of ht), rfl, _, rfl, ite2 (fun e1 => absurd e1 (by show ¬ (!decide (V.int 2 = V.int 2)) = true; decide)) (fun e1 => ?_)⟩
    refine ⟨_, rfl, _, .tuple [], rfl, em_dq hem, _, rfl, iteF ?_⟩
    refine ⟨_, rfl, t, _, _, _, rfl, rfl, SqT.of ht, atI_nat (j := 0) rfl, vr, rowD r, rfl, row_dq hrow, fun H1 s1 => ⟨_, rfl, ?_⟩⟩
    rw [row_g hrow]
    refine iteF ⟨_, rfl, t, _, _, _, rfl, rfl, SqT.of (s1 _ _ ht), atI_nat (j := 1) rfl, vm, rowD m, rfl, row_dq (hmrow.same s1), fun H2 s2 => ⟨_, rfl, ?_⟩⟩
    rw [row_g hmrow]
    have s12 := s1.trans s2
    obtain ⟨_, _, _, _, _, hok, _, l8⟩ := id hrow
    obtain ⟨_, _, _, _, _, hok2, _, l82⟩ := id hmrow
    have mr := matR_sm30 hok l8
    have mm := matR_sm30 hok2 l82
    obtain ⟨z1, z2, z3⟩ := q_sm mm mr
    refine iteF ⟨_, rfl, t, _, _, _, rfl, rfl, SqT.of (s12 _ _ ht), atI_nat (j := 1) rfl, vm, m, rfl, hmrow.same s12, fun H3 am s3 ham => ?_⟩
    have s13 := s12.trans s3
    refine ⟨_, rfl, t, _, _, _, rfl, rfl, SqT.of (s13 _ _ ht), atI_nat (j := 0) rfl, vr, r, rfl, hrow.same s13, fun H4 ar s4 har => ?_⟩
    have s14 := s13.trans s4
    refine ⟨am, ar, matR m, matR r, rfl, s4 _ _ ham, har, mm, mr, fun H5 z s5 hz => ?_⟩
    have s15 := s14.trans s5
    intro H6 pv s6 hpv
    obtain ⟨p0, us, rfl, hp0, hus⟩ := Dr.tuple hpv
    obtain ⟨rfl⟩ : us = [.int 0, .int 1] := by
      match us, hus with
      | [x, y], hus =>
        have h1 := hus.inv.1.toInt
        have h2 := hus.inv.2.inv.1.toInt
        rw [h1, h2]
      | [], hus => exact absurd hus.1 (by simp)
      | [_], hus => exact absurd hus.1 (by simp)
      | _ :: _ :: _ :: _, hus => exact absurd hus.1 (by simp)
    have hp0 := (fresh_get hp0).2
    refine ⟨z, p0, _, _, _, rfl, s6 _ _ hz, hp0, z1, z2, z3, fun H7 s7 => ?_⟩
    have := k _ ((s15.trans s6).trans s7)
    rw [← hnm] at this
    exact this
theorem ok_pairofT {f : Addr} {fd : FuncData} (F : Fun K "pair_of" "pair_of" s_pair_of f fd) (D_is_integer : Df P w K mg base 1 "is_integer" ["value"] (spIntG K)) : FnOk P w K mg base CX0 2 f fd ["fraction_or_open"] (spPrT K) := by
  refine F.ok sc_pair_of (fun vs H Q E h => ?_) (fun cdv A outer s H vs Q E hr h => ?_)
  · obtain ⟨p, e, rfl, _⟩ := h
    rfl
  · obtain ⟨p, e, rfl, hp, k⟩ := h
    refine ⟨_, (pss_cons (ps_if (pt_val (pe_df D_is_integer (hr.mono (by decide)) (by rfl) (pa_cons (pv 0) pa_nil))) (pss_one (ps_ret (pe_tup (pa_cons (pv 0) (pa_cons pe_int pa_nil))))) pss_nil)
      (pss_one (ps_ret (pv 0)))), ?_⟩
    exact ⟨_, rfl, .ref p, prD e, rfl, pr_dq hp, _, rfl, iteF ⟨_, rfl, k⟩⟩
theorem ok_shownT {f : Addr} {fd : FuncData} (F : Fun K "shown_before" "shown_before" s_shown_before f fd) : FnOk P w K mg base CX0 1 f fd ["matrix", "pair"] (spShownT K) := by
  refine F.ok sc_shown_before (fun vs H Q E h => ?_) (fun cdv A outer s H vs Q E hr h => ?_)
  · obtain ⟨a, b, m, e, rfl, _⟩ := h
    rfl
  · obtain ⟨a, b, m, e, rfl, ha, hb, ⟨sa, sb, sc, sd⟩, s1, s2, k⟩ := h
    refine ⟨_, (pss_cons (ps_asg (pv 0) (pg_tup rfl (pgs_cons (pg_name (i := 2) sc_shown_before.nd rfl (.inl rfl)) (pgs_cons (pg_name (i := 3) sc_shown_before.nd rfl (.inl rfl)) (pgs_cons (pg_name (i := 4) sc_shown_before.nd rfl (.inl rfl)) (pgs_cons (pg_name (i := 5) sc_shown_before.nd rfl (.inl rfl)) pgs_nil))))))
      (pss_cons (ps_asg (pv 1) (pg_tup rfl (pgs_cons (pg_name (i := 6) sc_shown_before.nd rfl (.inl rfl)) (pgs_cons (pg_name (i := 7) sc_shown_before.nd rfl (.inl rfl)) pgs_nil))))
      (pss_one (ps_ret (pe_tup (pa_cons (pe_op op_add (pe_op op_mulX (pv 2) (pv 6)) (pe_op op_mulX (pv 3) (pv 7))) (pa_cons (pe_op op_add (pe_op op_mulX (pv 4) (pv 6)) (pe_op op_mulX (pv 5) (pv 7))) pa_nil))))))), ?_⟩
    refine ⟨_, rfl, a, _, rfl, SqT.of ha, rfl, _, _, rfl, _, _, rfl, _, _, rfl, _, _, rfl, rfl, ?_⟩
    refine ⟨_, rfl, b, _, rfl, hb, rfl, _, _, rfl, _, _, rfl, rfl, ?_⟩
    refine ⟨_, rfl, _, rfl, _, _, rfl, rfl, mx sa s1, _, rfl, _, rfl, _, _, rfl, rfl, mx sb s2, _, _, rfl, rfl, _, rfl, _, rfl, _, _, rfl, rfl, mx sc s1, _, rfl, _, rfl, _, _, rfl, rfl, mx sd s2, _, _, rfl, rfl, (by show 2 ≤ sizeLine; decide), fun p hp => ?_⟩
    exact k _ p (same_upd hp) hp upd_same
theorem ok_ckmoT {f : Addr} {fd : FuncData} (F : Fun K "check_more" "check_more" s_check_more f fd) (T : TxtA K mg w tG t1 t3 tC tK aO aW aCh) (D_is_empty : Df P w K mg base 1 "is_empty" ["value"] (spEmptyG K)) (D_is_row : Df P w K mg base 4 "is_row" ["value"] (spRowG K)) (D_is_number : Df P w K mg base 3 "is_number" ["value"] (spNumG K)) (D_pair_of : Df P w K mg base 2 "pair_of" ["fraction_or_open"] (spPrT K)) (D_matrix_of : Df P w K mg base 2 "matrix_of" ["row"] spMatOf) (D_shown_before : Df P w K mg base 1 "shown_before" ["matrix", "pair"] (spShownT K)) (D_pair_order : Df P w K mg base 2 "pair_order" ["first", "second"] spPO) : FnOk P w K mg base CX0 5 f fd ["places", "certificate"] (spMoT K) := by
  refine F.ok sc_check_more (fun vs H Q E h => ?_) (fun cdv A outer s H vs Q E hr h => ?_)
  · obtain ⟨t, em, p, q1, q2, r, m, e, rfl, _⟩ := h
    rfl
  · obtain ⟨t, em, p, vr, vm, r, m, e, rfl, ht, hem, hrow, hmrow, hp, hn, se1, se2, hpos, k⟩ := h
    refine ⟨_, (pss_cons (ps_if (PW.pt (pw_or (pt_cmpR op_ne (pe_callB call_len_seq (by rfl) T.len (by decide +kernel) (pa_cons (pv 0) pa_nil)) pe_int (nomark _)) (pw_or1 (pt_not (pt_val (pe_df D_is_empty (hr.mono (by decide)) (by rfl) (pa_cons (pv 1) pa_nil))))))) (pss_one (ps_ret pe_bl)) pss_nil)
      (pss_cons (ps_asg (pv 0) (pg_tup rfl (pgs_cons (pg_name (i := 2) sc_check_more.nd rfl (.inl rfl)) (pgs_cons (pg_name (i := 3) sc_check_more.nd rfl (.inl rfl)) (pgs_cons (pg_name (i := 4) sc_check_more.nd rfl (.inl rfl)) pgs_nil)))))
      (pss_cons (ps_if (PW.pt (pw_or (pt_not (pt_val (pe_df D_is_row (hr.mono (by decide)) (by rfl) (pa_cons (pv 2) pa_nil)))) (pw_or (pt_not (pt_val (pe_df D_is_row (hr.mono (by decide)) (by rfl) (pa_cons (pv 3) pa_nil)))) (pw_or1 (pt_not (pt_val (pe_df D_is_number (hr.mono (by decide)) (by rfl) (pa_cons (pv 4) pa_nil)))))))) (pss_one (ps_ret pe_bl)) pss_nil)
      (pss_cons (ps_set (i := 5) sc_check_more.nd rfl (.inl rfl) (pe_df D_pair_of (hr.mono (by decide)) (by rfl) (pa_cons (pv 4) pa_nil)))
      (pss_one (ps_ret (pe_cmpR op_gt (pe_df D_pair_order (hr.mono (by decide)) (by rfl) (pa_cons (pe_df D_shown_before (hr.mono (by decide)) (by rfl) (pa_cons (pe_df D_matrix_of (hr.mono (by decide)) (by rfl) (pa_cons (pv 2) pa_nil)) (pa_cons (pv 5) pa_nil))) (pa_cons (pe_df D_shown_before (hr.mono (by decide)) (by rfl) (pa_cons (pe_df D_matrix_of (hr.mono (by decide)) (by rfl) (pa_cons (pv 3) pa_nil)) (pa_cons (pv 5) pa_nil))) pa_nil))) pe_int (nomark _)))))))), ?_⟩
    refine ⟨_, rfl, t, _, rfl, .inr (SqT.of ht), rfl, _, rfl, ite2 (fun e1 => absurd e1 (by show ¬ (!decide (V.int 3 = V.int 3)) = true; decide)) (fun e1 => ?_)⟩
    refine ⟨_, rfl, _, .tuple [], rfl, em_dq hem, _, rfl, iteF ?_⟩
    refine ⟨_, rfl, t, _, rfl, SqT.of ht, rfl, _, _, rfl, _, _, rfl, _, _, rfl, rfl, ?_⟩
    refine ⟨_, rfl, vr, rowD r, rfl, row_dq hrow, fun H1 s1 => ⟨_, rfl, ?_⟩⟩
    rw [row_g hrow]
    refine iteF ⟨_, rfl, vm, rowD m, rfl, row_dq (hmrow.same s1), fun H2 s2 => ⟨_, rfl, ?_⟩⟩
    rw [row_g hmrow]
    have s12 := s1.trans s2
    refine iteF ⟨_, rfl, .ref p, prD e, rfl, pr_dq (sqT_up hp s12), _, rfl, ?_⟩
    rw [hn]
    obtain ⟨_, _, _, _, _, hok, _, l8⟩ := id hrow
    obtain ⟨_, _, _, _, _, hok2, _, l82⟩ := id hmrow
    have mr := matR_sm30 hok l8
    have mm := matR_sm30 hok2 l82
    have zr := app_sm mr se1 se2
    have zm := app_sm mm se1 se2
    refine iteF ⟨_, rfl, p, e, rfl, sqT_up hp s12, ?_⟩
    refine ⟨_, rfl, vr, r, rfl, hrow.same s12, fun H4 ar s4 har => ?_⟩
    refine ⟨_, rfl, ar, p, matR r, e, rfl, har, sqT_up hp (s12.trans s4), mr.mono (by decide), se1.mono (by decide), se2.mono (by decide), fun H5 pr s5 npr hpr => ?_⟩
    have s15 := (s12.trans s4).trans s5
    refine ⟨_, rfl, vm, m, rfl, hmrow.same s15, fun H6 am s6 ham => ?_⟩
    refine ⟨_, rfl, am, p, matR m, e, rfl, ham, sqT_up hp (s15.trans s6), mm.mono (by decide), se1.mono (by decide), se2.mono (by decide), fun H7 pm s7 npm hpm => ?_⟩
    refine ⟨pr, pm, _, _, rfl, (s6.trans s7) _ _ hpr, hpm, zr.1.mono (by decide), zr.2.mono (by decide), zm.1.mono (by decide), zm.2.mono (by decide), ?_⟩
    refine ⟨_, _, rfl, rfl, ?_⟩
    have := k _ ((s15.trans s6).trans s7)
    rw [← decide_eq_true hpos] at this
    exact this
theorem ok_ckliT {f : Addr} {fd : FuncData} (F : Fun K "check_limit" "check_limit" s_check_limit f fd) (T : TxtX K mg w tG t1 t3 tC tK tP aO aW aCh Ce) (OX : OwX P w K mg base Ce aO gx fx) (OQ : OwQ P w K mg base Ce pq gq fq) (D_is_integer : Df P w K mg base 1 "is_integer" ["value"] (spIntG K)) (D_is_empty : Df P w K mg base 1 "is_empty" ["value"] (spEmptyG K)) (D_is_row : Df P w K mg base 4 "is_row" ["value"] (spRowG K)) (D_is_resistance : Df P w K mg base 3 "is_resistance" ["value"] (spResG K)) (D_matrix_of : Df P w K mg base 2 "matrix_of" ["row"] spMatOf) (D_ladder_limit : Df P w K mg base 7 "ladder_limit" ["matrix"] (spLim aO Ce)) : FnOk P w K mg base CX0 8 f fd ["places", "certificate"] (spLiT aO) := by
  refine F.ok sc_check_limit (fun vs H Q E h => ?_) (fun cdv A outer s H vs Q E hr h => ?_)
  · obtain ⟨t, em, lp, q, tv, r, e, rfl, _⟩ := h
    rfl
  · obtain ⟨t, em, lp, vr, tv, r, e, rfl, ht, hem, hrow, hlp, hres, hlt, k⟩ := h
    refine ⟨_, (pss_cons (ps_if (PW.pt (pw_or (pt_cmpR op_ne (pe_callB call_len_seq (by rfl) T.len (by decide +kernel) (pa_cons (pv 0) pa_nil)) pe_int (nomark _)) (pw_or1 (pt_not (pt_val (pe_df D_is_empty (hr.mono (by decide)) (by rfl) (pa_cons (pv 1) pa_nil))))))) (pss_one (ps_ret pe_bl)) pss_nil)
      (pss_cons (ps_asg (pv 0) (pg_tup rfl (pgs_cons (pg_name (i := 2) sc_check_limit.nd rfl (.inl rfl)) (pgs_cons (pg_name (i := 3) sc_check_limit.nd rfl (.inl rfl)) (pgs_cons (pg_name (i := 4) sc_check_limit.nd rfl (.inl rfl)) pgs_nil)))))
      (pss_cons (ps_if (PW.pt (pw_or (pt_not (pt_val (pe_df D_is_row (hr.mono (by decide)) (by rfl) (pa_cons (pv 2) pa_nil)))) (pw_or (pt_not (pt_val (pe_df D_is_resistance (hr.mono (by decide)) (by rfl) (pa_cons (pv 3) pa_nil)))) (pw_or1 (pt_not (pt_val (pe_callB call_isi (by rfl) T.isinstance (by decide +kernel) (pa_cons (pv 4) (pa_cons (pe_bltn (v := .ty "tuple") (by rfl) T.tuple_ (by decide +kernel) rfl) pa_nil))))))))) (pss_one (ps_ret pe_bl)) pss_nil)
      (pss_cons (ps_if (pt_not (pt_val (pe_callB (cr_all rfl) (by rfl) T.all (by decide +kernel) (pa_cons (pe_lc (own := [("part", 5)]) (g := gName 5) (tt := tYes) rfl sc_check_limit.nd (pi_tup (pv 4)) (blkOk_by (N := ["places", "certificate", "row", "load", "told", "part", "limit"]) (sc := defScope s_check_limit) (by decide +kernel)) (fun _ _ _ _ _ => pg_name (i := 5) sc_check_limit.nd rfl (Or.inl rfl)) (fun _ _ _ _ _ => pts_nil) (fun _ _ _ _ _ => (pe_df D_is_integer (hr.mono (by decide)) (by rfl) (pa_cons (pv 5) pa_nil)))) pa_nil)))) (pss_one (ps_ret pe_bl)) pss_nil)
      (pss_cons (ps_set (i := 6) sc_check_limit.nd rfl (.inl rfl) (pe_df D_ladder_limit (hr.mono (by decide)) (by rfl) (pa_cons (pe_df D_matrix_of (hr.mono (by decide)) (by rfl) (pa_cons (pv 2) pa_nil)) pa_nil)))
      (pss_one (ps_ret (pe_cmpR (op_eqD hr.units) (pv 4) (pe_ifExp (pt_cmpR (op_or2 (op_eqD hr.units) (op_eqOwn OX.e_at OX.e_fn OX.ok OX.b (hr.mono (by decide)))) (pv 6) (pe_glob (v := .ref aO) rfl T.mgO rfl) (nomark _)) (pe_glob (v := .ref aO) rfl T.mgO rfl) (pe_prop (pv 6) T.clE OQ.pr OQ.ok (hr.mono (by decide)) OQ.b .nil pass0 rfl)) (nomark _))))))))), ?_⟩
    refine ⟨_, rfl, t, _, rfl, .inr (SqT.of ht), rfl, _, rfl, ite2 (fun e1 => absurd e1 (by show ¬ (!decide (V.int 3 = V.int 3)) = true; decide)) (fun e1 => ?_)⟩
    refine ⟨_, rfl, _, .tuple [], rfl, em_dq hem, _, rfl, iteF ?_⟩
    refine ⟨_, rfl, t, _, rfl, SqT.of ht, rfl, _, _, rfl, _, _, rfl, _, _, rfl, rfl, ?_⟩
    refine ⟨_, rfl, vr, rowD r, rfl, row_dq hrow, fun H1 s1 => ⟨_, rfl, ?_⟩⟩
    rw [row_g hrow]
    refine iteF ⟨_, rfl, .ref lp, prD e, rfl, pr_dq (SqT.of (s1 _ _ hlp)), _, rfl, ?_⟩
    rw [hres]
    -- what is told, as a row of integers
    obtain ⟨tx, js, rfl, htx, hjl, hlim⟩ : ∃ (tx : Addr) (js : List Int), tv = .ref tx ∧ SqT K H tx (js.map V.int) ∧ js.length ≤ 3 ∧ limD r = .tuple (js.map PyData.int) := by
      rcases hlt with ⟨c0, rfl⟩ | ⟨cn, t, rfl, h⟩
      · exact ⟨aO, [1, 0], rfl, .inr T.opn, by decide, if_pos c0⟩
      · exact ⟨t, [(eqL r).1, (eqL r).2.1, (eqL r).2.2], rfl, SqT.of h, by show 3 ≤ 3; decide, if_neg cn⟩
    have hD0 : ∀ js : List Int, PyData.hasDictAll (js.map PyData.int) = false := fun js => hda_of fun d hd => by
      obtain ⟨i, _, rfl⟩ := List.mem_map.mp hd
      rfl
    have dpA : ∀ {H : Hp} (js : List Int), DpAll K H (js.map V.int) (js.map PyData.int) := fun {H} js => by
      induction js with
      | nil => exact .nil
      | cons i js ih => exact .cons (.int i) ih
    have dpt : ∀ {H2 : Hp}, Same H H2 → Dp K H2 (.ref tx) (.tuple (js.map PyData.int)) := fun {H2} s2 => .tup (sqT_up htx s2) (dpA js)
    refine iteF ⟨_, rfl, _, _, _, _, true, rfl, .ty _, ty_dp (dpt s1), kit_tup _, _, rfl, iteF ?_⟩
    refine ⟨_, rfl, tx, rfl, ⟨_, sqT_up htx s1⟩, fun D hD => ?_⟩
    refine lc_tup (K := K) (a := tx) (xs := js.map V.int) (fun i H' => Same H1 H' ∧ H' D = some (.lst ((List.replicate i true).map V.bl))) ⟨same_upd hD, upd_same⟩ (fun i H' _ h => sqT_up htx (s1.trans h.1)) ?_ ?_
    · rintro i y H' hyi ⟨sD, hDi⟩
      have il : i < js.length := by
        have := (List.getElem?_eq_some_iff.mp hyi).1
        rwa [List.length_map] at this
      rw [List.getElem?_map, List.getElem?_eq_getElem il] at hyi
      cases hyi
      refine ⟨rfl, ?_⟩
      unfold tYes
      refine iteT ?_
      refine ⟨_, rfl, _, .int _, rfl, .dp (.int _) rfl, _, hDi, ?_, ?_, ?_⟩
      · rw [List.length_map, List.length_replicate]
        exact small1000 (by omega)
      · intro q o e
        rw [upd_ne (ne_of_none e hD)]
        exact sD _ _ e
      · rw [upd_same, List.replicate_succ', List.map_append]
        rfl
    rintro H2 ⟨sD, hDn⟩
    refine ⟨D, _, rfl, SqL.of hDn, _, rfl, ?_⟩
    have ea : ∀ n : Nat, (List.replicate n true).all id = true := fun n => by
      rw [List.all_eq_true]
      intro z hz
      rw [List.eq_of_mem_replicate hz]
      rfl
    rw [ea]
    have s12 := s1.trans sD
    obtain ⟨_, _, _, _, _, hok, _, l8⟩ := id hrow
    refine iteF ⟨_, rfl, vr, r, rfl, hrow.same s12, fun H3 m s3 hm => ?_⟩
    refine ⟨m, r, rfl, hm, hok, l8, fun H4 lv s4 hlv => ?_⟩
    have s14 := (s12.trans s3).trans s4
    have dpo : ∀ {HH : Hp}, Dp K HH (.ref aO) (.tuple [.int 1, .int 0]) := fun {HH} => .tup (.inr T.opn) (.cons (.int _) (.cons (.int _) .nil))
    have dpx := dpt s14
    have shx : SeqAt.shaped (.tuple (js.map PyData.int)) = true := sh_ints fun d hd => by
      obtain ⟨i, _, rfl⟩ := List.mem_map.mp hd
      rfl
    have kk : ∀ {x : PyData}, limD r = x → Q (.bl (PyData.eqv (.tuple (js.map PyData.int)) x)) H4 := fun {x} e => by
      rw [← e, hlim, SeqAt.eqv_refl _ (SeqAt.canLay_of_shaped shx)]
      exact k _ s14
    refine ⟨_, rfl, _, rfl, ?_⟩
    rcases hlv with ⟨c0, rfl⟩ | ⟨cn, y, rfl, hy⟩
    · have ld : limD r = .tuple [.int 1, .int 0] := if_pos c0
      refine .inl ⟨_, _, dpo, dpo, rfl, rfl, _, rfl, ite2 (fun _ => ?_) (fun e => absurd (SeqAt.eqv_refl _ (by decide +kernel)) e)⟩
      exact ⟨_, _, dpx, dpo, shx, rfl, kk ld⟩
    · have ld : limD r = .tuple [.int (eqL r).1, .int (eqL r).2.1, .int (eqL r).2.2] := if_neg cn
      obtain ⟨dy, qy, hiy, hqy⟩ := id hy
      refine .inr ⟨y, dy, _, _, rfl, hiy, ty_dp (d := .tuple [.int 1, .int 0]) dpo, OX.nf, y, dy, _, rfl, hiy, _, rfl, ite2 (fun e => absurd e (by decide)) (fun _ => ?_)⟩
      refine ⟨_, rfl, y, dy, _, rfl, hiy, y, dy, qy, rfl, hiy, ?_⟩
      exact ⟨_, _, dpx, .tup (SqT.of hqy) (.cons (.int _) (.cons (.int _) (.cons (.int _) .nil))), shx, rfl, kk ld⟩
end
end RL

set_option maxHeartbeats 4000000
namespace RL
open PySem L2 PySem.Spec PyProof.Rows
section
variable {P : Program} {w : World} {K : PySem.W.Frag} {mg : Str → Option Value} {base : Heap} {tG t1 t3 tC tK tP : Tok} {aO aW aCh Ce pq gq gx : Addr} {fq fx : FuncData}
theorem ok_ledT {f : Addr} {fd : FuncData} (F : Fun K "_law_led" "_law_led" s_law_led f fd) : FnOk P w K mg base CX0 1 f fd ["_law_row", "_law_pair"] (spLedT K) := by
  refine F.ok sc_law_led (fun vs H Q E h => ?_) (fun cdv A outer s H vs Q E hr h => ?_)
  · obtain ⟨v, t, r, e, rfl, _⟩ := h
    rfl
  · obtain ⟨v, p, r, e, rfl, ⟨a, ws, rfl, ha, hw, hok, _, l8⟩, hp, es1, es2, k⟩ := h
    refine ⟨_, (pss_cons (ps_asg (pv 1) (pg_tup rfl (pgs_cons (pg_name (i := 2) sc_law_led.nd rfl (.inl rfl)) (pgs_cons (pg_name (i := 3) sc_law_led.nd rfl (.inl rfl)) pgs_nil))))
      (pss_cons (ps_for PassesOwn.never rfl (pi_tup (pe_revT (pv 0))) (pg_tup rfl (pgs_cons (pg_name (i := 4) sc_law_led.nd rfl (.inl rfl)) (pgs_cons (pg_name (i := 5) sc_law_led.nd rfl (.inl rfl)) pgs_nil))) (pss_one (ps_if (pt_cmpR op_eq (pv 4) pe_str (nomark _)) (pss_one (ps_set (i := 2) sc_law_led.nd rfl (.inl rfl) (pe_op op_add (pv 2) (pe_op op_mulX (pv 5) (pv 3))))) (pss_one (ps_par (by rfl) sc_law_led.nd (i := 2) (j := 3) rfl rfl (by decide) rfl rfl (pa_cons (pe_op op_mulX (pv 5) (pv 2)) (pa_cons (pe_op op_add (pe_op op_mulX (pv 5) (pv 3)) (pv 2)) pa_nil)) (by rfl))))))
      (pss_one (ps_ret (pe_tup (pa_cons (pv 2) (pa_cons (pv 3) pa_nil))))))), ?_⟩
    refine ⟨_, rfl, p, _, rfl, hp, rfl, _, _, rfl, _, _, rfl, rfl, ?_⟩
    refine ⟨_, rfl, a, ws, rfl, SqT.of ha, fun q nq => ?_⟩
    have s1 := same_upd (o := .tup ws.reverse) nq
    have hq : (upd H q (.tup ws.reverse)) q = some (.tup ws.reverse) := upd_same
    generalize upd H q (.tup ws.reverse) = H1 at *
    have hwr := (hw.same s1).rev
    refine ⟨q, rfl, ⟨_, SqT.of hq⟩, for_tup (K := K) (a := q) (xs := ws.reverse) (fun i σ H' => H' = H1 ∧ ∃ v1 v2, σ = [some (.ref a), some (.ref p), some (.int ((r.reverse.take i).foldl (fun e p => act p e) e).1), some (.int ((r.reverse.take i).foldl (fun e p => act p e) e).2), v1, v2]) ⟨rfl, none, none, rfl⟩ (fun i σ H' _ h => by rw [h.1]; exact SqT.of hq) ?_ ?_⟩
    · rintro i y σ H' hx ⟨rfl, v1, v2, rfl⟩
      obtain ⟨pc, hpc, t, rfl, ht⟩ := hwr.at_ hx
      have hi : i < r.length := by
        have := (List.getElem?_eq_some_iff.mp hpc).1
        rw [List.length_reverse] at this
        exact this
      have f1 : (r.reverse.take (i + 1)).foldl (fun e p => act p e) e = act pc ((r.reverse.take i).foldl (fun e p => act p e) e) := by rw [take_snoc hpc, List.foldl_append]; rfl
      have okt : RowOk (r.reverse.take i).reverse := fun z hz => hok z (List.mem_reverse.mp (List.mem_of_mem_take (List.mem_reverse.mp hz)))
      have len : (r.reverse.take i).reverse.length ≤ 8 := by
        rw [List.length_reverse, List.length_take]
        omega
      have ms := actR_sm okt len es1 es2
      rw [← walk_act] at ms
      have po := ohm_sm (hok.rev.at_ hpc)
      rw [f1]
      generalize (r.reverse.take i).foldl (fun e p => act p e) e = g at *
      refine ⟨t, _, rfl, SqT.of ht, rfl, _, _, rfl, _, _, rfl, rfl, ?_⟩
      refine ⟨_, rfl, rfl, _, rfl, ite2 (fun e => ?_) (fun e => ?_)⟩
      · have r1 : pc.1 = true := wd_inj (r' := true) (V.str.inj (of_decide_eq_true e))
        unfold act
        rw [if_pos r1]
        exact ⟨_, rfl, _, rfl, _, rfl, _, _, rfl, rfl, mx po ms.2, _, _, rfl, rfl, rfl, _, _, rfl⟩
      · have r1 : ¬ pc.1 = true := fun z => e (decide_eq_true (by rw [z]; rfl))
        unfold act
        rw [if_neg r1]
        dsimp only
        rw [Int.add_comm g.1]
        exact ⟨_, rfl, _, rfl, _, _, rfl, rfl, mx po ms.1, _, rfl, _, rfl, _, _, rfl, rfl, mx po ms.2, _, rfl, _, _, rfl, rfl, _, _, rfl, rfl, _, _, rfl⟩
    · rintro σ H' ⟨rfl, v1, v2, rfl⟩
      have e0 : (r.reverse.take ws.reverse.length).foldl (fun e p => act p e) e = actR r e := by
        rw [List.length_reverse, hw.1, ← List.length_reverse, List.take_length, walk_act, List.reverse_reverse]
      rw [e0]
      exact ⟨_, rfl, _, rfl, (by show 2 ≤ sizeLine; decide), fun t nt => k _ t (s1.trans (same_upd nt)) (s1.free nt) upd_same⟩
theorem ok_fracT {f : Addr} {fd : FuncData} (F : Fun K "_law_frac" "_law_frac" s_law_frac f fd) (T : Txt K mg) (D_law_lowest : Df P w K mg base 1 "_law_lowest" ["_law_top", "_law_bottom"] spPair) : FnOk P w K mg base CX0 2 f fd ["_law_thing"] (spFracT K) := by
  refine F.ok sc_law_frac (fun vs H Q E h => ?_) (fun cdv A outer s H vs Q E hr h => ?_)
  · obtain ⟨p, e, rfl, _⟩ := h
    rfl
  · obtain ⟨t, e, rfl, hp, pe, s1, s2, k⟩ := h
    refine ⟨_, (pss_one (ps_ret (pe_ifExp (pt_val (pe_callB call_isi (by rfl) T.isinstance (by decide +kernel) (pa_cons (pv 0) (pa_cons (pe_bltn (v := .ty "tuple") (by rfl) T.tuple_ (by decide +kernel) rfl) pa_nil)))) (pe_df D_law_lowest (hr.mono (by decide)) (by rfl) (pa_cons (pe_ix ix_tup (pv 0) pe_int (fun _ _ => rfl)) (pa_cons (pe_ix ix_tup (pv 0) pe_int (fun _ _ => rfl)) pa_nil))) (pe_tup (pa_cons (pv 0) (pa_cons pe_int pa_nil)))))), ?_⟩
    refine ⟨_, rfl, _, _, _, _, true, rfl, .ty _, ty_dp (dp_pr hp), kit_tup (prD e), _, rfl, ?_⟩
    refine iteT ⟨_, rfl, t, _, _, _, rfl, rfl, hp, atI_nat (j := 0) rfl, _, rfl, t, _, _, _, rfl, rfl, hp, atI_nat (j := 1) rfl, ?_⟩
    exact ⟨e.1, e.2, rfl, pe, s1, s2, fun H' q s nq hq => k _ q s hq⟩
theorem ok_isnumT {f : Addr} {fd : FuncData} (F : Fun K "_law_is_number" "_law_is_number" s_law_is_number f fd) (T : TxtA K mg w tG t1 t3 tC tK aO aW aCh) : FnOk P w K mg base CX0 1 f fd ["_law_thing"] (spIsNumT K) := by
  refine F.ok sc_law_is_number (fun vs H Q E h => ?_) (fun cdv A outer s H vs Q E hr h => ?_)
  · obtain ⟨p, e, rfl, _⟩ := h
    rfl
  · obtain ⟨p, e, rfl, hp, e0, eb, k⟩ := h
    refine ⟨_, (C8.pss_cut (ps_set (i := 1) sc_law_is_number.nd rfl (.inl rfl) (pe_ifExp (pt_val (pe_callB call_isi (by rfl) T.isinstance (by decide +kernel) (pa_cons (pv 0) (pa_cons (pe_bltn (v := .ty "tuple") (by rfl) T.tuple_ (by decide +kernel) rfl) pa_nil)))) (pv 0) (pe_tup (pa_cons (pv 0) (pa_cons pe_int pa_nil)))))
      (pss_cons (ps_if (PW.pt (pw_or (pt_cmpR op_ne (pe_callB call_len_seq (by rfl) T.len (by decide +kernel) (pa_cons (pv 1) pa_nil)) pe_int (nomark _)) (pw_or1 (pt_val (pe_callB (cr_any rfl) (by rfl) T.any (by decide +kernel) (pa_cons (pe_lc (own := [("_law_x", 2)]) (g := gName 2) (tt := tYes) rfl sc_law_is_number.nd (pi_tup (pv 1)) (blkOk_by (N := ["_law_thing", "_law_both", "_law_x"]) (sc := defScope s_law_is_number) (by decide +kernel)) (fun _ _ _ _ _ => pg_name (i := 2) sc_law_is_number.nd rfl (Or.inl rfl)) (fun _ _ _ _ _ => pts_nil) (fun _ _ _ _ _ => (pe_or (pe_not (pe_callB (call_isiK (K := K)) (by rfl) T.isinstance (by decide +kernel) (pa_cons (pv 2) (pa_cons (pe_bltn (v := .ty "int") (by rfl) T.int_ (by decide +kernel) rfl) pa_nil)))) (pe_one (pe_callB (call_isiK (K := K)) (by rfl) T.isinstance (by decide +kernel) (pa_cons (pv 2) (pa_cons (pe_bltn (v := .ty "bool") (by rfl) T.bool_ (by decide +kernel) rfl) pa_nil))))))) pa_nil)))))) (pss_one (ps_ret pe_bl)) pss_nil)
      (pss_one (ps_ret (pe_or (pe_and (pe_cmpR op_ge (pe_ix ix_tup (pv 1) pe_int (fun _ _ => rfl)) pe_int (nomark _)) (pe_one (pe_cmpR op_gt (pe_ix ix_tup (pv 1) pe_int (fun _ _ => rfl)) pe_int (nomark _)))) (pe_one (pe_cmpR (op_eqD hr.units) (pv 1) (pe_tup (pa_cons pe_int (pa_cons pe_int pa_nil))) (nomark _)))))))), ?_⟩
    refine ⟨fun σ' H' => σ' = [some (.ref p), some (.ref p), none] ∧ H' = H, ?_, ?_⟩
    · exact ⟨_, rfl, _, _, _, _, true, rfl, .ty _, ty_dp (dp_pr hp), kit_tup (prD e), _, rfl, iteT ⟨_, rfl, rfl, rfl⟩⟩
    rintro σ1 H1 ⟨rfl, rfl⟩
    refine ⟨_, rfl, p, _, rfl, .inr hp, rfl, _, rfl, ite2 (fun e1 => absurd e1 (by show ¬ (!decide (V.int 2 = V.int 2)) = true; decide)) (fun e1 => ?_)⟩
    refine ⟨_, rfl, p, rfl, ⟨_, hp⟩, fun D hD => ?_⟩
    refine lc_tup (K := K) (a := p) (xs := [.int e.1, .int e.2]) (fun i H' => Same H1 H' ∧ H' D = some (.lst ((List.replicate i false).map V.bl))) ⟨same_upd hD, upd_same⟩ (fun i H' _ h => sqT_up hp h.1) ?_ ?_
    · rintro i y H' hyi ⟨sD, hDi⟩
      have il : i < 2 := (List.getElem?_eq_some_iff.mp hyi).1
      obtain ⟨n, rfl⟩ : ∃ n : Int, y = .int n := by
        match i, hyi with
        | 0, h => exact ⟨_, (Option.some.inj h).symm⟩
        | 1, h => exact ⟨_, (Option.some.inj h).symm⟩
      refine ⟨rfl, ?_⟩
      unfold tYes
      refine iteT ?_
      have fin : ∃ acc, H' D = some (.lst acc) ∧ acc.length < sizeLine ∧ Same H1 (upd H' D (.lst (acc ++ [.bl false]))) ∧ (upd H' D (.lst (acc ++ [.bl false]))) D = some (.lst ((List.replicate (i + 1) false).map V.bl)) := by
        refine ⟨_, hDi, ?_, ?_, ?_⟩
        · rw [List.length_map, List.length_replicate]
          exact small1000 (by omega)
        · intro q o e
          rw [upd_ne (ne_of_none e hD)]
          exact sD _ _ e
        · rw [upd_same, List.replicate_succ', List.map_append]
          rfl
      exact ⟨_, rfl, _, _, _, _, true, rfl, .ty _, ty_dr (H := H') (.int n), kit_int (.int n), _, rfl, _, rfl, iteF ⟨_, rfl, _, _, _, _, false, rfl, .ty _, ty_dr (H := H') (.int n), kit_bool (.int n), fin⟩⟩
    · rintro H' ⟨sD, hDn⟩
      refine ⟨D, _, rfl, SqL.of hDn, _, rfl, ?_⟩
      have ea : ∀ n : Nat, (List.replicate n false).any id = false := fun n => by
        rw [List.any_eq_false]
        intro z hz
        rw [List.eq_of_mem_replicate hz]
        decide
      rw [ea]
      have hp' := sqT_up hp sD
      refine iteF ?_
      refine ⟨_, rfl, p, _, _, _, rfl, rfl, hp', atI_nat (j := 0) rfl, _, _, rfl, rfl, _, rfl, ite2 (fun e3 => ?_) (fun e3 => absurd (decide_eq_true e0) e3)⟩
      refine ⟨_, rfl, p, _, _, _, rfl, rfl, hp', atI_nat (j := 1) rfl, _, _, rfl, rfl, ?_⟩
      cases e2 : decide (0 < e.2) with
      | true => exact ⟨true, congrArg V.bl e2, iteT (k _ sD)⟩
      | false =>
        refine ⟨false, congrArg V.bl e2, iteF ?_⟩
        have eo : e = (1, 0) := eb.resolve_left (of_decide_eq_false e2)
        refine ⟨_, rfl, (by show 2 ≤ sizeLine; decide), fun q nq => ?_⟩
        have sq := same_upd (o := .tup [.int 1, .int 0]) nq
        refine ⟨prD e, .tuple [.int 1, .int 0], dp_pr (sqT_up hp' sq), .tup (SqT.of upd_same) (.cons (.int _) (.cons (.int _) .nil)), rfl, rfl, ?_⟩
        rw [eo]
        exact k _ (sD.trans sq)
end
end RL

namespace RL
open PySem L2
/-! ### data that repr shows, put together -/
structure Tame (w h : Nat) (d : PyData) : Prop where
  s : d.showable = true
  n : d.hasDict = false
  v : d.leavesShort 300 = true
  w_ : d.weight ≤ w
  d_ : d.depth ≤ h
theorem Tame.shows {w h : Nat} {d : PyData} (t : Tame w h d) (hw : w ≤ 10000 := by decide) (hh : h ≤ 40 := by decide) : Shows d := by
  refine ⟨t.s, t.n, Nat.le_trans t.d_ hh, ?_⟩
  have e := PyData.shown_le 300 (by decide) d t.v
  have := Nat.le_trans t.w_ hw
  rw [sizeLine_eq]
  omega
theorem Tame.mono {w h w' h' : Nat} {d : PyData} (t : Tame w h d) (hw : w ≤ w' := by decide) (hh : h ≤ h' := by decide) : Tame w' h' d := ⟨t.s, t.n, t.v, Nat.le_trans t.w_ hw, Nat.le_trans t.d_ hh⟩
theorem tame_int {i : Int} (h : Sm 200 i) : Tame 200 0 (.int i) := by
  obtain ⟨a, b, c⟩ := show_int h
  exact ⟨a, by simp only [PyData.hasDict], b, c, by simp only [PyData.depth]; exact Nat.le_refl _⟩
theorem tame_all {w h : Nat} : ∀ {xs : List PyData}, (∀ d ∈ xs, Tame w h d) → PyData.showableAll xs = true ∧ PyData.hasDictAll xs = false ∧ PyData.leavesShortAll 300 xs = true ∧ PyData.weightAll xs ≤ xs.length * (w + 1) ∧ PyData.depthAll xs ≤ h
  | [], _ => ⟨by simp only [PyData.showableAll], by simp only [PyData.hasDictAll], by simp only [PyData.leavesShortAll], by simp [PyData.weightAll], by simp [PyData.depthAll]⟩
  | x :: xs, H => by
    obtain ⟨a, b, c, d, e⟩ := H x List.mem_cons_self
    obtain ⟨a', b', c', d', e'⟩ := tame_all fun z hz => H z (List.mem_cons_of_mem _ hz)
    refine ⟨by simp only [PyData.showableAll, a, a', Bool.and_self], by simp only [PyData.hasDictAll, b, b', Bool.or_self], by simp only [PyData.leavesShortAll, c, c', Bool.and_self], ?_, ?_⟩
    · simp only [PyData.weightAll, List.length_cons]
      have : (xs.length + 1) * (w + 1) = xs.length * (w + 1) + (w + 1) := Nat.succ_mul _ _
      omega
    · simp only [PyData.depthAll]
      omega
theorem tame_tup {w h : Nat} {xs : List PyData} (H : ∀ d ∈ xs, Tame w h d) : Tame (xs.length * (w + 1)) (h + 1) (.tuple xs) := by
  obtain ⟨a, b, c, d, e⟩ := tame_all H
  exact ⟨by simp only [PyData.showable, a], by simp only [PyData.hasDict, b], by simp only [PyData.leavesShort, c], by simp only [PyData.weight]; exact d, by simp only [PyData.depth]; omega⟩
theorem tame_2 {w h : Nat} {x y : PyData} (hx : Tame w h x) (hy : Tame w h y) : Tame (2 * (w + 1)) (h + 1) (.tuple [x, y]) := tame_tup (xs := [x, y]) fun d hd => by
  simp only [List.mem_cons, List.not_mem_nil, or_false] at hd
  rcases hd with rfl | rfl
  · exact hx
  · exact hy
end RL

set_option maxHeartbeats 4000000
namespace RL
open PySem L2 PySem.Spec PyProof.Rows
def chS (l : List (Addr × Sp)) : Addr → Option Sp := fun f => List.lookup f l
theorem lk_mem : ∀ {l : List (Addr × Sp)}, (l.map Prod.fst).Nodup → ∀ {f : Addr} {sp : Sp}, (f, sp) ∈ l → chS l f = some sp
  | [], _, _, _, h => by cases h
  | (g, tp) :: l, n, f, sp, h => by
    rw [List.map_cons, List.nodup_cons] at n
    unfold chS
    rw [List.lookup_cons]
    rcases List.mem_cons.mp h with h | h
    · cases h
      rw [beq_self_eq_true]
    · have : (f == g) = false := beq_eq_false_iff_ne.mpr fun z => n.1 (by rw [← z]; exact List.mem_map.mpr ⟨_, h, rfl⟩)
      rw [this]
      exact lk_mem n.2 h
theorem lk_of : ∀ {l : List (Addr × Sp)} {f : Addr} {sp : Sp}, chS l f = some sp → (f, sp) ∈ l
  | [], f, sp, h => by cases h
  | (g, tp) :: l, f, sp, h => by
    unfold chS at h
    rw [List.lookup_cons] at h
    cases e : (f == g) with
    | true =>
      rw [e] at h
      cases h
      rw [eq_of_beq e]
      exact List.mem_cons_self
    | false =>
      rw [e] at h
      exact List.mem_cons_of_mem _ (lk_of h)
theorem tame_str {n w : Nat} {x : Str} (h : OkT n x) (hn : n ≤ w) : Tame w 0 (.str x) := by
  obtain ⟨a, b⟩ := show_str h
  exact ⟨by simp only [PyData.showable], by simp only [PyData.hasDict], a, Nat.le_trans b hn, by simp only [PyData.depth]; exact Nat.le_refl _⟩
theorem tame_pc {p : Pc} (h : PcOk p) : Tame 402 1 (pcD p) := by
  have h1 : Tame 200 0 (.str (wd p.1)) := tame_str (n := 4) (by
    cases p.1
    · exact OkT.of "rung"
    · exact OkT.of "rail") (by decide)
  exact tame_2 h1 (tame_int ((ohm_sm h).mono (by decide)))
theorem tame_row {r : List Pc} (hok : RowOk r) (l8 : r.length ≤ 8) : Tame 3224 2 (.tuple (r.map pcD)) := by
  have h := tame_tup (w := 402) (h := 1) (xs := r.map pcD) fun d hd => by
    obtain ⟨p, hp, rfl⟩ := List.mem_map.mp hd
    exact tame_pc (hok p hp)
  rw [List.length_map] at h
  exact ⟨h.s, h.n, h.v, Nat.le_trans h.w_ (by have := Nat.mul_le_mul_right 403 l8; omega), h.d_⟩
structure TameL (w h : Nat) (xs : List PyData) : Prop where
  s : PyData.showableAll xs = true
  n : PyData.hasDictAll xs = false
  v : PyData.leavesShortAll 300 xs = true
  w_ : PyData.weightAll xs ≤ w
  d_ : PyData.depthAll xs ≤ h
theorem TameL.nil {w h : Nat} : TameL w h [] := ⟨by simp only [PyData.showableAll], by simp only [PyData.hasDictAll], by simp only [PyData.leavesShortAll], by simp [PyData.weightAll], by simp [PyData.depthAll]⟩
theorem TameL.cons {w w' h : Nat} {x : PyData} {xs : List PyData} (a : Tame w h x) (b : TameL w' h xs) : TameL (w + w' + 1) h (x :: xs) := by
  obtain ⟨a', b', c', d', e'⟩ := b
  obtain ⟨a, b, c, d, e⟩ := a
  refine ⟨by simp only [PyData.showableAll, a, a', Bool.and_self], by simp only [PyData.hasDictAll, b, b', Bool.or_self], by simp only [PyData.leavesShortAll, c, c', Bool.and_self], ?_, ?_⟩
  · simp only [PyData.weightAll]
    omega
  · simp only [PyData.depthAll]
    omega
theorem TameL.tup {w h : Nat} {xs : List PyData} (t : TameL w h xs) : Tame w (h + 1) (.tuple xs) := by
  obtain ⟨a, b, c, d, e⟩ := t
  exact ⟨by simp only [PyData.showable, a], by simp only [PyData.hasDict, b], by simp only [PyData.leavesShort, c], by simp only [PyData.weight]; exact d, by simp only [PyData.depth]; omega⟩
theorem tame_rowD {r : List Pc} (ok : RowOk r) (l8 : r.length ≤ 8) : Tame 3224 2 (rowD r) := tame_row ok l8
theorem tame_prD {e : Int × Int} (h1 : Sm 200 e.1) (h2 : Sm 200 e.2) : Tame 402 1 (prD e) := tame_2 (tame_int h1) (tame_int h2)
def nevD (r m : List Pc) : PyData := .tuple [.tuple [.str (Str.ofString "never"), rowD r, rowD m], .tuple []]
def morD (r m : List Pc) (e : Int × Int) : PyData := .tuple [.tuple [.str (Str.ofString "more"), rowD r, rowD m, prD e], .tuple []]
def limC (r : List Pc) (e : Int × Int) : PyData := .tuple [.tuple [.str (Str.ofString "limit"), rowD r, prD e, limD r], .tuple []]
theorem tame_em : Tame 0 3 (.tuple []) := ((TameL.tup (TameL.nil (w := 0) (h := 0))).mono)
theorem nev_shows {r m : List Pc} (ok : RowOk r) (l8 : r.length ≤ 8) (ok' : RowOk m) (l8' : m.length ≤ 8) : Shows (nevD r m) :=
  (TameL.cons (h := 3) (TameL.tup (TameL.cons (h := 2) ((tame_str (OkT.of "never") (Nat.le_refl _)).mono (w' := 20)) (TameL.cons (tame_rowD ok l8) (TameL.cons (tame_rowD ok' l8') (TameL.nil (w := 0)))))) (TameL.cons tame_em (TameL.nil (w := 0)))).tup.shows
theorem mor_shows {r m : List Pc} {e : Int × Int} (ok : RowOk r) (l8 : r.length ≤ 8) (ok' : RowOk m) (l8' : m.length ≤ 8) (h1 : Sm 200 e.1) (h2 : Sm 200 e.2) : Shows (morD r m e) :=
  (TameL.cons (h := 3) (TameL.tup (TameL.cons (h := 2) ((tame_str (OkT.of "more") (Nat.le_refl _)).mono (w' := 20)) (TameL.cons (tame_rowD ok l8) (TameL.cons (tame_rowD ok' l8') (TameL.cons ((tame_prD h1 h2).mono (w' := 402)) (TameL.nil (w := 0))))))) (TameL.cons tame_em (TameL.nil (w := 0)))).tup.shows
theorem lim_shows {r : List Pc} {e : Int × Int} (ok : RowOk r) (l8 : r.length ≤ 8) (h1 : Sm 200 e.1) (h2 : Sm 200 e.2) (hl : Tame 700 2 (limD r)) : Shows (limC r e) :=
  (TameL.cons (h := 3) (TameL.tup (TameL.cons (h := 2) ((tame_str (OkT.of "limit") (Nat.le_refl _)).mono (w' := 20)) (TameL.cons (tame_rowD ok l8) (TameL.cons ((tame_prD h1 h2).mono (w' := 402)) (TameL.cons hl (TameL.nil (w := 0))))))) (TameL.cons tame_em (TameL.nil (w := 0)))).tup.shows
/-! ### the load in front of which more is shown -/
theorem sg_gt0 {n : Int} : 0 < sg n ↔ 0 < n := by
  unfold sg
  split
  · omega
  · split <;> omega
theorem low_bot {e : Int × Int} (h : Pos2 e) (hb : 0 < e.2) : 0 < (low e).2 := by
  have h1 := congrArg Prod.snd (low_is h)
  have h2 := (low_pos h).2.1
  have h3 : e.2 = gc e.1 e.2 * (low e).2 := h1
  rcases Int.lt_or_eq_of_le h2 with z | z
  · exact z
  · rw [← z, Int.mul_zero] at h3
    omega
theorem ml_facts {r m : List Pc} (ok : RowOk r) (l8 : r.length ≤ 8) (ok' : RowOk m) (l8' : m.length ≤ 8) (h : nmR r m = false) : Pos2 (mlE r m) ∧ low (mlE r m) = mlE r m ∧ (0 < (mlE r m).2 ∨ mlE r m = (1, 0)) ∧ Sm 80 (mlE r m).1 ∧ Sm 80 (mlE r m).2 ∧ 0 < oP ((matR r).app (mlE r m)) ((matR m).app (mlE r m)) := by
  have ms := matR_sm30 ok l8
  have ms' := matR_sm30 ok' l8'
  obtain ⟨sS, sL, sW⟩ := q_sm63 ms' ms
  obtain ⟨u1, u2, u3⟩ := lowE_sm sS sL sW
  have hp := lowE_pos h
  have hn := (qv_low hp).mpr (lowE_neg h)
  have hk := nb_not h
  unfold mlE
  have hs : Sm 80 (lowE (qS (matR m) (matR r)) (qL (matR m) (matR r)) (qW (matR m) (matR r))).1 ∧ Sm 80 (lowE (qS (matR m) (matR r)) (qL (matR m) (matR r)) (qW (matR m) (matR r))).2 ∧ (0 < (lowE (qS (matR m) (matR r)) (qL (matR m) (matR r)) (qW (matR m) (matR r))).2 ∨ lowE (qS (matR m) (matR r)) (qL (matR m) (matR r)) (qW (matR m) (matR r)) = (1, 0)) := by
    have z0 : Sm 80 0 := by unfold Sm; decide
    have z1 : Sm 80 1 := by unfold Sm; decide
    unfold lowE
    split
    · exact ⟨z0, z1, .inl (by show (0 : Int) < 1; decide)⟩
    · split
      · exact ⟨z1, z0, .inr rfl⟩
      · split
        · exact ⟨u1.mono (by decide), u2.mono (by decide), .inl (by show 0 < -_; omega)⟩
        · exact ⟨u2.mono (by decide), u3.mono (by decide), .inl (by show 0 < 2 * _; omega)⟩
  have idn : ∀ e : Int × Int, ((matR r).app e).1 * ((matR m).app e).2 - ((matR m).app e).1 * ((matR r).app e).2 = - qv (qS (matR m) (matR r)) (qL (matR m) (matR r)) (qW (matR m) (matR r)) e := fun e => by
    unfold Mx.app qv qS qL qW
    dsimp
    grind
  obtain ⟨h1, h2, h3⟩ := hs
  generalize lowE (qS (matR m) (matR r)) (qL (matR m) (matR r)) (qW (matR m) (matR r)) = e at *
  refine ⟨low_pos hp, low_low hp, ?_, (low_sm hp h1 h2).1, (low_sm hp h1 h2).2, ?_⟩
  · rcases h3 with z | z
    · exact .inl (low_bot hp z)
    · subst z
      exact .inr (by decide)
  · unfold oP
    rw [sg_gt0, idn]
    omega
theorem num_prD {e : Int × Int} (h : Pos2 e) (h' : 0 < e.2 ∨ e = (1, 0)) : numG (prD e) = true := by
  obtain ⟨h1, h2, _⟩ := h
  show (decide (e.1 = 1 ∧ e.2 = 0) || (decide (0 ≤ e.1) && decide (1 ≤ e.2))) = true
  rcases h' with z | z
  · rw [decide_eq_true h1, decide_eq_true (show 1 ≤ e.2 by omega)]
    simp
  · subst z
    rfl
theorem SaidAt.pr {K : PySem.W.Frag} {aO : Addr} {H : Hp} {p : Addr} {e : Int × Int} (h : SaidAt aO H p e) (o : PrT K H aO (1, 0)) : PrT K H p e := by
  rcases h with h | ⟨rfl, rfl⟩
  · exact SqT.of h
  · exact o
/-! ### accepts, as the law sees it -/
structure Keys3 (K : PySem.W.Frag) (aCh fN fR fL : Addr) : Prop where
  kn : PySem.W.nsIn K aCh "never" = some (some (.ref fN))
  ko : PySem.W.nsIn K aCh "more" = some (some (.ref fR))
  kl : PySem.W.nsIn K aCh "limit" = some (some (.ref fL))
  nd : [fN, fR, fL].Nodup
def chL3 (K : PySem.W.Frag) (aO fN fR fL : Addr) : List (Addr × Sp) := [(fN, spNeT), (fR, spMoT K), (fL, spLiT aO)]
def ClT (K : PySem.W.Frag) (aO : Addr) (H : Hp) (t : Addr) : Prop :=
  (∃ (q1 q2 : V) (r m : List Pc), H t = some (.tup [.str (Str.ofString "never"), q1, q2]) ∧ RowT H q1 r ∧ RowT H q2 m ∧ nmR r m = true) ∨
  (∃ (p : Addr) (q1 q2 : V) (r m : List Pc) (e : Int × Int), H t = some (.tup [.str (Str.ofString "more"), q1, q2, .ref p]) ∧ RowT H q1 r ∧ RowT H q2 m ∧ PrT K H p e ∧ numG (prD e) = true ∧ Sm 100 e.1 ∧ Sm 100 e.2 ∧ 0 < oP ((matR r).app e) ((matR m).app e)) ∨
  (∃ (lp : Addr) (q tv : V) (r : List Pc) (e : Int × Int), H t = some (.tup [.str (Str.ofString "limit"), q, .ref lp, tv]) ∧ RowT H q r ∧ PairAt H lp e ∧ resG (prD e) = true ∧ LtAt aO H tv r)
def spAcc3 (K : PySem.W.Frag) (aO : Addr) : Sp := fun vs H Q _ => ∃ (t em : Addr), vs = [.ref t, .ref em] ∧ H em = some (.tup []) ∧ ClT K aO H t ∧ ∀ H', Same H H' → Q (.bl true) H'
theorem acc_weak3 {K : PySem.W.Frag} {aO aCh fN fR fL : Addr} (ks : Keys3 K aCh fN fR fL) (vs : List V) (H : Hp) (Q : VK) (E : XK) (h : spAcc3 K aO vs H Q E) : spAccT K aCh (chS (chL3 K aO fN fR fL)) vs H Q E := by
  obtain ⟨t, em, rfl, he, hc, k⟩ := h
  have nd : ((chL3 K aO fN fR fL).map Prod.fst).Nodup := ks.nd
  rcases hc with ⟨q1, q2, r, m, ht, h1, h2, hn⟩ | ⟨p, q1, q2, r, m, e, ht, h1, h2, hp, hn, s1, s2, ho⟩ | ⟨lp, q, tv, r, e, ht, h1, hl, hr, hv⟩
  · exact ⟨t, em, fN, _, _, _, rfl, ht, ks.kn, lk_mem nd (show (fN, spNeT) ∈ chL3 K aO fN fR fL by simp [chL3]), fun H' t' s ht' => ⟨t', em, q1, q2, r, m, rfl, ht', s _ _ he, h1.same s, h2.same s, hn, fun H'' s' => k _ (s.trans s')⟩⟩
  · exact ⟨t, em, fR, _, _, _, rfl, ht, ks.ko, lk_mem nd (show (fR, spMoT K) ∈ chL3 K aO fN fR fL by simp [chL3]), fun H' t' s ht' => ⟨t', em, p, q1, q2, r, m, e, rfl, ht', s _ _ he, h1.same s, h2.same s, sqT_up hp s, hn, s1, s2, ho, fun H'' s' => k _ (s.trans s')⟩⟩
  · exact ⟨t, em, fL, _, _, _, rfl, ht, ks.kl, lk_mem nd (show (fL, spLiT aO) ∈ chL3 K aO fN fR fL by simp [chL3]), fun H' t' s ht' => ⟨t', em, lp, q, tv, r, e, rfl, ht', s _ _ he, h1.same s, s _ _ hl, hr, hv.same s, fun H'' s' => k _ (s.trans s')⟩⟩
end RL

set_option maxHeartbeats 4000000
namespace RL
open PySem L2 PySem.Spec PyProof.Rows
theorem dh_at {c : Addr} {n : Nat} {H : Hp} {a : Addr} {vs : List V} {ds : List PyData} (t : TapeAt c n H) (h : H a = some (.tup vs)) (hs : Dhs c H vs ds) : Dh c H (.ref a) (.tuple ds) := Dr.ts (hid_of h (t.nt h)) hs
def lnD : PyData → Nat
  | .tuple ds => ds.length
  | _ => 0
def spAnyRowL : Sp := fun vs H Q _ => ∃ (c : Addr) (n : Nat) (L : Int), vs = [.ref c, .int L] ∧ TapeAt c n H ∧ n + 17 ≤ 1000000 ∧ 1 ≤ L ∧ L ≤ 8 ∧ ∀ H' v d, But c H H' → TapeAt c (n + 17) H' → Dh c H' v d → rowG d = true → (lnD d : Int) ≤ L → Q v H'
def EndV (v : V) : Prop := v = .non ∨ ∃ e : Int, v = .int e ∧ 0 ≤ e ∧ e ≤ 12
def spEven : Sp := fun vs H Q _ => ∃ (c : Addr) (n : Nat), vs = [.ref c] ∧ TapeAt c n H ∧ n + 2 ≤ 1000000 ∧
  ∀ H' p v d ev, But c H H' → TapeAt c (n + 2) H' → H' p = some (.tup [v, ev]) → Dh c H' v d → rowG d = true → lnD d ≤ 2 → EndV ev → Q (.ref p) H'
def spSomeRow : Sp := fun vs H Q _ => ∃ (c : Addr) (n : Nat) (L : Int), vs = [.ref c, .int L] ∧ TapeAt c n H ∧ n + 20 ≤ 1000000 ∧ 2 ≤ L ∧ L ≤ 8 ∧
  ∀ H' p v d ev, But c H H' → TapeAt c (n + 20) H' → H' p = some (.tup [v, ev]) → Dh c H' v d → rowG d = true → (lnD d : Int) ≤ L → EndV ev → Q (.ref p) H'
theorem row2_ok {x y : Int} {b : Bool} (hx : 1 ≤ x ∧ x ≤ 12) (hy : 1 ≤ y ∧ y ≤ 12) : rowG (.tuple [.tuple [.str (wd b), .int x], .tuple [.str (wd (!b)), .int y]]) = true :=
  rowD_ok (r := [(b, x), (!b, y)]) (fun p hp => by
    simp only [List.mem_cons, List.not_mem_nil, or_false] at hp
    rcases hp with rfl | rfl
    · exact hx
    · exact hy) (by show 1 ≤ 2; decide) (by show 2 ≤ 8; decide)
theorem Drs.rev {H : Hp} {vs : List V} {ds : List PyData} (h : Drs H vs ds) : Drs H vs.reverse ds.reverse := by
  refine ⟨by rw [List.length_reverse, List.length_reverse, h.1], fun i v d hv hd => ?_⟩
  have li : i < vs.length := by
    have := (List.getElem?_eq_some_iff.mp hv).1
    rwa [List.length_reverse] at this
  rw [List.getElem?_reverse li] at hv
  rw [List.getElem?_reverse (by rw [← h.1]; exact li), ← h.1] at hd
  exact h.2 _ v d hv hd
theorem row_mk {ds : List PyData} (l1 : 1 ≤ ds.length) (l8 : ds.length ≤ 8) (h : ∀ x ∈ ds, pieceG x = true) : rowG (.tuple ds) = true := by
  show (decide (1 ≤ ds.length) && (decide (ds.length ≤ 8) && ds.all pieceG)) = true
  rw [decide_eq_true l1, decide_eq_true l8]
  simp only [Bool.true_and, List.all_eq_true]
  exact h
def spNear : Sp := fun vs H Q _ => ∃ (c : Addr) (n : Nat) (v : V) (d : PyData), vs = [.ref c, v] ∧ TapeAt c n H ∧ n + 40 ≤ 1000000 ∧ Dh c H v d ∧ rowG d = true ∧ lnD d ≤ 5 ∧
  ∀ H' v' d', But c H H' → TapeAt c (n + 40) H' → Dh c H' v' d' → rowG d' = true → Q v' H'
def spCross : Sp := fun vs H Q _ => ∃ (c : Addr) (n : Nat), vs = [.ref c] ∧ TapeAt c n H ∧ n + 3 ≤ 1000000 ∧
  ∀ H' p v u d e, But c H H' → TapeAt c (n + 3) H' → H' p = some (.tup [v, u]) → Dh c H' v d → rowG d = true → Dh c H' u e → rowG e = true → Q (.ref p) H'
section
variable {P : Program} {w : World} {K : PySem.W.Frag} {mg : Str → Option Value} {base : Heap} {tG t1 t3 tC tK : Tok} {aO aW aCh : Addr}
theorem ok_anyrowL {f : Addr} {fd : FuncData} (F : Fun K "_law_anyrow" "_law_anyrow" s_law_anyrow f fd) (T : Txt K mg) (D_law_pick : Df P w K mg base 1 "_law_pick" ["_law_tape", "_law_many"] spDraw) : FnOk P w K mg base CX0 2 f fd ["_law_tape", "_law_longest"] spAnyRowL := by
  refine F.ok sc_law_anyrow (fun vs H Q E h => ?_) (fun cdv A outer s H vs Q E hr h => ?_)
  · obtain ⟨c, n, L, rfl, _⟩ := h
    rfl
  · obtain ⟨c, n, L, rfl, ht, hn, L1, L8, k⟩ := h
    refine ⟨_, (pss_cons (ps_set (i := 2) sc_law_anyrow.nd rfl (.inl rfl) (pe_op op_add pe_int (pe_df D_law_pick (hr.mono (by decide)) (by rfl) (pa_cons (pv 0) (pa_cons (pv 1) pa_nil)))))
      (pss_one (ps_ret (pe_callTy call_tuple_of (by rfl) T.tuple_ (by decide +kernel) (pa_cons (pe_lc (own := [("_law_turn", 3)]) (g := gName 3) (tt := tYes) rfl sc_law_anyrow.nd (pi_range1 rfl T.range (pa_cons (pv 2) pa_nil)) (blkOk_by (N := ["_law_tape", "_law_longest", "_law_many", "_law_turn"]) (sc := defScope s_law_anyrow) (by decide +kernel)) (fun _ _ _ _ _ => pg_name (i := 3) sc_law_anyrow.nd rfl (Or.inl rfl)) (fun _ _ _ _ _ => pts_nil) (fun _ _ _ _ _ => (pe_tup (pa_cons (pe_ix (ix_listK (K := K)) (pe_lst (pa_cons pe_str (pa_cons pe_str pa_nil))) (pe_df D_law_pick (hr.mono (by decide)) (by rfl) (pa_cons (pv 0) (pa_cons pe_int pa_nil))) (fun _ _ => rfl)) (pa_cons (pe_op op_add pe_int (pe_df D_law_pick (hr.mono (by decide)) (by rfl) (pa_cons (pv 0) (pa_cons pe_int pa_nil)))) pa_nil))))) pa_nil))))), ?_⟩
    refine ⟨_, rfl, _, rfl, c, n, L, rfl, ht, by omega, by omega, sm_p (by omega) (by decide), fun H1 r b1 t1 r0 r1 => ?_⟩
    refine ⟨_, _, rfl, rfl, ?_⟩
    have hm : 1 + r ≤ 8 := by omega
    refine ⟨_, rfl, _, rfl, by omega, by omega, fun D hD => ?_⟩
    have nDc : D ≠ c := (t1.ne hD).symm
    refine lc_range (lo := 0) (n := (1 + r).toNat) (fun i H' => But c H1 H' ∧ TapeAt c (n + 1 + 2 * i) H' ∧ ∃ vs ps, H' D = some (.lst vs) ∧ PiecesAt H' vs ps ∧ RowOk ps ∧ ps.length = i) ⟨.of (same_upd hD), t1.same (same_upd hD), [], [], upd_same, ⟨rfl, fun i p h => by simp at h⟩, (fun p hp => by cases hp), rfl⟩ ?_ ?_
    · rintro i H' hi ⟨bD, tD, vs, ps, hDv, hps, hok, rfl⟩
      refine ⟨rfl, ?_⟩
      unfold tYes
      refine iteT ?_
      refine ⟨(by show 2 ≤ sizeLine; decide), fun l nl => ?_⟩
      have sl := same_upd (o := .lst [.str (Str.ofString "rail"), .str (Str.ofString "rung")]) nl
      refine ⟨_, rfl, c, _, 2, rfl, tD.same sl, by omega, by decide, sm_p (by decide) (by decide), fun H2 x b2 t2 x0 x1 => ?_⟩
      have nlc : l ≠ c := (tD.ne nl).symm
      have hl2 := b2 _ _ nlc upd_same
      obtain ⟨wv, hwv⟩ : ∃ b : Bool, ([.str (Str.ofString "rail"), .str (Str.ofString "rung")] : List V)[x.toNat]? = some (.str (wd b)) := by
        have : x = 0 ∨ x = 1 := by omega
        rcases this with rfl | rfl
        · exact ⟨true, rfl⟩
        · exact ⟨false, rfl⟩
      have ex : x = (x.toNat : Int) := (Int.toNat_of_nonneg x0).symm
      rw [ex]
      refine ⟨l, _, _, _, rfl, rfl, SqL.of hl2, atI_nat (j := x.toNat) hwv, ?_⟩
      refine ⟨_, rfl, c, _, 12, rfl, t2, by omega, by decide, sm_p (by decide) (by decide), fun H3 y b3 t3 y0 y1 => ?_⟩
      refine ⟨_, _, rfl, rfl, (by show 2 ≤ sizeLine; decide), fun p np => ?_⟩
      have sp := same_upd (o := .tup [.str (wd wv), .int (1 + y)]) np
      have bA : But c H' (upd H3 p (.tup [.str (wd wv), .int (1 + y)])) := ((But.of sl).trans (b2.trans b3)).trans (.of sp)
      have hD3 := bA _ _ nDc hDv
      have pz : PcOk (wv, 1 + y) := ⟨by dsimp; omega, by dsimp; omega⟩
      refine ⟨vs, hD3, ?_, ?_, ?_, vs ++ [.ref p], ps ++ [(wv, 1 + y)], upd_same, ?_, hok.app (fun q hq => by rw [List.mem_singleton.mp hq]; exact pz), by simp⟩
      · rw [hps.1]
        exact small1000 (by omega)
      · intro b o nb e
        rw [upd_ne (ne_of_none e hD)]
        exact bA _ _ nb (bD _ _ nb e)
      · have t4 := t3.same sp
        obtain ⟨u1, u2, u3, hc, rest⟩ := t4
        refine TapeAt.le (n := n + 1 + 2 * ps.length + 1 + 1) ⟨u1, u2, u3, ?_, rest⟩ (by omega)
        rw [upd_ne nDc.symm]
        exact hc
      · have h1 := (hps.but bA tD.notup)
        have nD : ∀ xs, (upd H3 p (.tup [.str (wd wv), .int (1 + y)])) D ≠ some (.tup xs) := fun xs z => by rw [hD3] at z; cases z
        have h2 := h1.but (x := D) (H' := upd (upd H3 p (.tup [.str (wd wv), .int (1 + y)])) D (.lst (vs ++ [.ref p]))) But.upd nD
        have hD30 := ((But.of sl).trans (b2.trans b3)) _ _ nDc hDv
        have npD : p ≠ D := (ne_of_none hD30 np).symm
        have one : PieceAt (upd (upd H3 p (.tup [.str (wd wv), .int (1 + y)])) D (.lst (vs ++ [.ref p]))) (.ref p) (wv, 1 + y) := ⟨p, rfl, by rw [upd_ne npD]; exact upd_same⟩
        refine ⟨by rw [List.length_append, List.length_append, h2.1]; rfl, fun j q hq => ?_⟩
        by_cases hj : j < ps.length
        · rw [List.getElem?_append_left hj] at hq
          obtain ⟨v, hv, hv'⟩ := h2.2 j q hq
          exact ⟨v, by rw [List.getElem?_append_left (by rw [h2.1]; exact hj)]; exact hv, hv'⟩
        · rw [List.getElem?_append_right (by omega)] at hq
          have hj0 : j - ps.length = 0 := by
            have := (List.getElem?_eq_some_iff.mp hq).1
            simp at this
            omega
          rw [hj0] at hq
          cases hq
          exact ⟨_, by rw [List.getElem?_append_right (by rw [h2.1]; omega), h2.1, hj0]; rfl, one⟩
    · rintro H' ⟨bD, tD, vs, ps, hDv, hps, hok, hlen⟩
      refine ⟨D, _, rfl, .inl ⟨SqL.of hDv, fun q nq => ?_⟩⟩
      have sq := same_upd (o := .tup vs) nq
      have tq := tD.same sq
      exact k _ (.ref q) (.tuple (ps.map pcD)) ((b1.trans bD).trans (.of sq)) (tq.le (by omega)) (Dh.new tD nq (dhs_of_pieces tD hps)) (rowD_ok hok (by omega) (by omega)) (by show ((ps.map pcD).length : Int) ≤ L; rw [List.length_map]; omega)
abbrev s_law_even : Stmt := top 113
theorem sc_law_even : FnScope ["_law_tape", "_law_rail", "_law_rung", "_law_end"] ["_law_tape"] (defScope s_law_even) := ⟨rfl, rfl, rfl, by decide +kernel, rfl, by decide +kernel, by decide +kernel⟩

theorem ok_even {f : Addr} {fd : FuncData} (F : Fun K "_law_even" "_law_even" s_law_even f fd) (D_law_pick : Df P w K mg base 1 "_law_pick" ["_law_tape", "_law_many"] spDraw) : FnOk P w K mg base CX0 2 f fd ["_law_tape"] spEven := by
  refine F.ok sc_law_even (fun vs H Q E h => ?_) (fun cdv A outer s H vs Q E hr h => ?_)
  · obtain ⟨c, n, rfl, _⟩ := h
    rfl
  · obtain ⟨c, n, rfl, ht, hn, k⟩ := h
    refine ⟨_, (C8.pss_cut (ps_asg (pe_ix ix_list (pd_lst (pds_cons (pd_tup (pds_cons pd_int (pds_cons pd_int (pds_cons pd_int pds_nil)))) (pds_cons (pd_tup (pds_cons pd_int (pds_cons pd_int (pds_cons pd_int pds_nil)))) (pds_cons (pd_tup (pds_cons pd_int (pds_cons pd_int (pds_cons pd_int pds_nil)))) (pds_cons (pd_tup (pds_cons pd_int (pds_cons pd_int (pds_cons pd_int pds_nil)))) (pds_cons (pd_tup (pds_cons pd_int (pds_cons pd_int (pds_cons pd_int pds_nil)))) (pds_cons (pd_tup (pds_cons pd_int (pds_cons pd_int (pds_cons pd_int pds_nil)))) (pds_cons (pd_tup (pds_cons pd_int (pds_cons pd_int (pds_cons pd_int pds_nil)))) (pds_cons (pd_tup (pds_cons pd_int (pds_cons pd_int (pds_cons pd_int pds_nil)))) (pds_cons (pd_tup (pds_cons pd_int (pds_cons pd_int (pds_cons pd_int pds_nil)))) (pds_cons (pd_tup (pds_cons pd_int (pds_cons pd_int (pds_cons pd_int pds_nil)))) (pds_cons (pd_tup (pds_cons pd_int (pds_cons pd_int (pds_cons pd_int pds_nil)))) (pds_cons (pd_tup (pds_cons pd_int (pds_cons pd_int (pds_cons pd_int pds_nil)))) pds_nil))))))))))))) (pe_df D_law_pick (hr.mono (by decide)) (by rfl) (pa_cons (pv 0) (pa_cons pe_int pa_nil))) (fun _ _ => rfl)) (pg_tup rfl (pgs_cons (pg_name (i := 1) sc_law_even.nd rfl (.inl rfl)) (pgs_cons (pg_name (i := 2) sc_law_even.nd rfl (.inl rfl)) (pgs_cons (pg_name (i := 3) sc_law_even.nd rfl (.inl rfl)) pgs_nil)))))
      (pss_cons (ps_if (pt_cmpR op_eq (pe_df D_law_pick (hr.mono (by decide)) (by rfl) (pa_cons (pv 0) (pa_cons pe_int pa_nil))) pe_int (nomark _)) (pss_one (ps_ret (pe_tup (pa_cons (pe_tup (pa_cons (pe_tup (pa_cons pe_str (pa_cons (pv 1) pa_nil))) (pa_cons (pe_tup (pa_cons pe_str (pa_cons (pv 2) pa_nil))) pa_nil))) (pa_cons (pv 3) pa_nil))))) pss_nil)
      (pss_one (ps_ret (pe_tup (pa_cons (pe_tup (pa_cons (pe_tup (pa_cons pe_str (pa_cons (pv 2) pa_nil))) (pa_cons (pe_tup (pa_cons pe_str (pa_cons (pv 1) pa_nil))) pa_nil))) (pa_cons (pe_op op_sub (pv 3) (pv 1)) pa_nil))))))), ?_⟩
    refine ⟨fun σ' H' => ∃ x y z : Int, σ' = [some (.ref c), some (.int x), some (.int y), some (.int z)] ∧ But c H H' ∧ TapeAt c (n + 1) H' ∧ (1 ≤ x ∧ x ≤ 12) ∧ (1 ≤ y ∧ y ≤ 12) ∧ x ≤ z ∧ z ≤ 12, ?_, ?_⟩
    · intro H1 lv s1 hlv
      obtain ⟨a, vs, rfl, nac, ha, hvs⟩ := lit_ix ht hlv
      refine ⟨_, rfl, c, _, 12, rfl, ht.same s1, by omega, by decide, sm_p (by decide) (by decide), fun H2 j b2 t2 j0 j1 => ?_⟩
      obtain ⟨i, hi, rfl⟩ : ∃ i : Nat, i < 12 ∧ j = (i : Int) := ⟨j.toNat, by omega, (Int.toNat_of_nonneg j0).symm⟩
      obtain ⟨d, hd⟩ : ∃ d, ([PyData.tuple [.int 1, .int 2, .int 2], .tuple [.int 1, .int 6, .int 3], .tuple [.int 1, .int 12, .int 4], .tuple [.int 2, .int 4, .int 4], .tuple [.int 2, .int 12, .int 6], .tuple [.int 3, .int 6, .int 6], .tuple [.int 4, .int 3, .int 6], .tuple [.int 4, .int 8, .int 8], .tuple [.int 5, .int 10, .int 10], .tuple [.int 6, .int 12, .int 12], .tuple [.int 8, .int 6, .int 12], .tuple [.int 9, .int 4, .int 12]] : List PyData)[i]? = some d := ⟨_, List.getElem?_eq_getElem hi⟩
      obtain ⟨xv, hx, hdx⟩ := Drs.at_ hvs hd
      obtain ⟨x, y, z, rfl, q⟩ : ∃ x y z : Int, d = .tuple [.int x, .int y, .int z] ∧ (1 ≤ x ∧ x ≤ 12) ∧ (1 ≤ y ∧ y ≤ 12) ∧ x ≤ z ∧ z ≤ 12 := by
        have hm := List.mem_of_getElem? hd
        simp only [List.mem_cons, List.not_mem_nil, or_false] at hm
        rcases hm with rfl | rfl | rfl | rfl | rfl | rfl | rfl | rfl | rfl | rfl | rfl | rfl <;> exact ⟨_, _, _, rfl, by decide, by decide, by decide, by decide⟩
      obtain ⟨u, us, rfl, hu, hus⟩ := Dr.tuple (Dh.dr hdx)
      obtain ⟨rfl⟩ : us = [.int x, .int y, .int z] := by
        match us, hus with
        | [x1, x2, x3], hus =>
          have h1 := hus.inv.1.toInt
          have h2 := hus.inv.2.inv.1.toInt
          have h3 := hus.inv.2.inv.2.inv.1.toInt
          rw [h1, h2, h3]
        | [], hus => exact absurd hus.1 (by simp)
        | [_], hus => exact absurd hus.1 (by simp)
        | [_, _], hus => exact absurd hus.1 (by simp)
        | _ :: _ :: _ :: _ :: _, hus => exact absurd hus.1 (by simp)
      have nuc := (ht.same s1).nt hu
      refine ⟨a, vs, _, _, rfl, rfl, SqL.of (b2 _ _ nac ha), atI_nat hx, ?_⟩
      refine ⟨u, _, rfl, SqT.of (b2 _ _ nuc hu), rfl, _, _, rfl, _, _, rfl, _, _, rfl, rfl, ?_⟩
      exact ⟨x, y, z, rfl, (But.of s1).trans b2, t2, q⟩
    rintro σ1 H1 ⟨x, y, z, rfl, b1, t1, hx, hy, xz, z12⟩
    have fin : ∀ {H2 : Hp} {g1 g2 r p : Addr} {b : Bool} {x' y' z' : Int}, But c H H2 → TapeAt c (n + 2) H2 → H2 g1 = some (.tup [.str (wd b), .int x']) → H2 g2 = some (.tup [.str (wd (!b)), .int y']) → H2 r = some (.tup [.ref g1, .ref g2]) → H2 p = some (.tup [.ref r, .int z']) → (1 ≤ x' ∧ x' ≤ 12) → (1 ≤ y' ∧ y' ≤ 12) → (0 ≤ z' ∧ z' ≤ 12) → Q (.ref p) H2 := fun {H2 g1 g2 r p b x' y' z'} bb tt h1 h2 h3 h4 q1 q2 q3 => by
      refine k H2 p _ _ _ bb tt h4 (dh_at tt h3 (Drs.cons (dh_at tt h1 (Drs.cons (.str _) (Drs.cons (.int _) Drs.nil))) (Drs.cons (dh_at tt h2 (Drs.cons (.str _) (Drs.cons (.int _) Drs.nil))) Drs.nil))) (row2_ok q1 q2) (Nat.le_refl 2) (.inr ⟨z', rfl, q3.1, q3.2⟩)
    refine ⟨_, rfl, c, _, 2, rfl, t1, by omega, by decide, sm_p (by decide) (by decide), fun H2 j b2 t2 j0 j1 => ?_⟩
    have bA := b1.trans b2
    refine ⟨rfl, _, rfl, ite2 (fun _ => ?_) (fun _ => ?_)⟩
    · refine ⟨_, rfl, (by show 2 ≤ sizeLine; decide), fun g1 n1 => ?_⟩
      have s1 := same_upd (o := .tup [.str (Str.ofString "rail"), .int x]) n1
      refine ⟨_, rfl, (by show 2 ≤ sizeLine; decide), fun g2 n2 => ?_⟩
      have s2 := same_upd (o := .tup [.str (Str.ofString "rung"), .int y]) n2
      refine ⟨(by show 2 ≤ sizeLine; decide), fun r nr => ?_⟩
      have s3 := same_upd (o := .tup [.ref g1, .ref g2]) nr
      refine ⟨_, rfl, (by show 2 ≤ sizeLine; decide), fun p np => ?_⟩
      have s4 := same_upd (o := .tup [.ref r, .int z]) np
      have sA := ((s1.trans s2).trans s3).trans s4
      exact fin (b := true) (bA.trans (.of sA)) (t2.same sA) (((s2.trans s3).trans s4) _ _ upd_same) ((s3.trans s4) _ _ upd_same) (s4 _ _ upd_same) upd_same hx hy ⟨by omega, z12⟩
    · refine ⟨_, rfl, (by show 2 ≤ sizeLine; decide), fun g1 n1 => ?_⟩
      have s1 := same_upd (o := .tup [.str (Str.ofString "rung"), .int y]) n1
      refine ⟨_, rfl, (by show 2 ≤ sizeLine; decide), fun g2 n2 => ?_⟩
      have s2 := same_upd (o := .tup [.str (Str.ofString "rail"), .int x]) n2
      refine ⟨(by show 2 ≤ sizeLine; decide), fun r nr => ?_⟩
      have s3 := same_upd (o := .tup [.ref g1, .ref g2]) nr
      refine ⟨_, rfl, _, rfl, _, _, rfl, rfl, (by show 2 ≤ sizeLine; decide), fun p np => ?_⟩
      have s4 := same_upd (o := .tup [.ref r, .int (z - x)]) np
      have sA := ((s1.trans s2).trans s3).trans s4
      exact fin (b := false) (bA.trans (.of sA)) (t2.same sA) (((s2.trans s3).trans s4) _ _ upd_same) ((s3.trans s4) _ _ upd_same) (s4 _ _ upd_same) upd_same hy hx ⟨by omega, by omega⟩
abbrev s_law_some_row : Stmt := top 114
theorem sc_law_some_row : FnScope ["_law_tape", "_law_longest"] ["_law_tape", "_law_longest"] (defScope s_law_some_row) := ⟨rfl, rfl, rfl, by decide +kernel, rfl, by decide +kernel, by decide +kernel⟩

theorem ok_somerow {f : Addr} {fd : FuncData} (F : Fun K "_law_some_row" "_law_some_row" s_law_some_row f fd) (D_law_pick : Df P w K mg base 1 "_law_pick" ["_law_tape", "_law_many"] spDraw) (D_law_even : Df P w K mg base 2 "_law_even" ["_law_tape"] spEven) (D_law_anyrow : Df P w K mg base 2 "_law_anyrow" ["_law_tape", "_law_longest"] spAnyRowL) : FnOk P w K mg base CX0 3 f fd ["_law_tape", "_law_longest"] spSomeRow := by
  refine F.ok sc_law_some_row (fun vs H Q E h => ?_) (fun cdv A outer s H vs Q E hr h => ?_)
  · obtain ⟨c, n, L, rfl, _⟩ := h
    rfl
  · obtain ⟨c, n, L, rfl, ht, hn, L1, L8, k⟩ := h
    refine ⟨_, (pss_cons (ps_if (pt_cmpR op_eq (pe_df D_law_pick (hr.mono (by decide)) (by rfl) (pa_cons (pv 0) (pa_cons pe_int pa_nil))) pe_int (nomark _)) (pss_one (ps_ret (pe_df D_law_even (hr.mono (by decide)) (by rfl) (pa_cons (pv 0) pa_nil)))) pss_nil)
      (pss_one (ps_ret (pe_tup (pa_cons (pe_df D_law_anyrow (hr.mono (by decide)) (by rfl) (pa_cons (pv 0) (pa_cons (pv 1) pa_nil))) (pa_cons pe_non pa_nil)))))), ?_⟩
    refine ⟨_, rfl, c, _, 3, rfl, ht, by omega, by decide, sm_p (by decide) (by decide), fun H1 j b1 t1 j0 j1 => ?_⟩
    refine ⟨rfl, _, rfl, ite2 (fun _ => ?_) (fun _ => ?_)⟩
    · exact ⟨_, rfl, c, _, rfl, t1, by omega, fun H2 p v d ev b2 t2 hp hd hg hl he => k _ p v d ev (b1.trans b2) (t2.le (by omega)) hp hd hg (by omega) he⟩
    · refine ⟨_, rfl, _, rfl, c, _, L, rfl, t1, by omega, by omega, L8, fun H2 v d b2 t2 hd hg hl => ?_⟩
      refine ⟨(by show 2 ≤ sizeLine; decide), fun p np => ?_⟩
      have sp := same_upd (o := .tup [v, .non]) np
      exact k _ p v d .non ((b1.trans b2).trans (.of sp)) ((t2.same sp).le (by omega)) upd_same (hd.same sp) hg hl (.inl rfl)
abbrev s_law_near : Stmt := top 115
theorem sc_law_near : FnScope ["_law_tape", "_law_row", "_law_way", "_law_place", "_law_size", "_law_more", "_law_word"] ["_law_tape", "_law_row"] (defScope s_law_near) := ⟨rfl, rfl, rfl, by decide +kernel, rfl, by decide +kernel, by decide +kernel⟩

theorem ok_near {f : Addr} {fd : FuncData} (F : Fun K "_law_near" "_law_near" s_law_near f fd) (T : TxtA K mg w tG t1 t3 tC tK aO aW aCh) (D_law_pick : Df P w K mg base 1 "_law_pick" ["_law_tape", "_law_many"] spDraw) (D_law_anyrow : Df P w K mg base 2 "_law_anyrow" ["_law_tape", "_law_longest"] spAnyRowL) : FnOk P w K mg base CX0 3 f fd ["_law_tape", "_law_row"] spNear := by
  refine F.ok sc_law_near (fun vs H Q E h => ?_) (fun cdv A outer s H vs Q E hr h => ?_)
  · obtain ⟨c, n, v, d, rfl, _⟩ := h
    rfl
  · obtain ⟨c, n, v, d, rfl, ht, hn, hd, hg, hl, k⟩ := h
    obtain ⟨ds, rfl⟩ := row_tup hg
    obtain ⟨l1, _, hpc⟩ := row_parts hg
    have l5 : ds.length ≤ 5 := hl
    obtain ⟨t, ys, rfl, ht0, hys0⟩ := Dr.tuple hd
    obtain ⟨ntc, hS0⟩ := hid_get ht0
    have hys0 : Dhs c H ys ds := hys0
    have ly : ys.length = ds.length := hys0.1
    refine ⟨_, (C8.pss_cut (ps_par (by rfl) sc_law_near.nd (i := 2) (j := 3) rfl rfl (by decide) rfl rfl (pa_cons (pe_df D_law_pick (hr.mono (by decide)) (by rfl) (pa_cons (pv 0) (pa_cons pe_int pa_nil))) (pa_cons (pe_df D_law_pick (hr.mono (by decide)) (by rfl) (pa_cons (pv 0) (pa_cons (pe_callB call_len_seq (by rfl) T.len (by decide +kernel) (pa_cons (pv 1) pa_nil)) pa_nil))) pa_nil)) (by rfl))
      (C8.pss_cut (ps_par (by rfl) sc_law_near.nd (i := 4) (j := 5) rfl rfl (by decide) rfl rfl (pa_cons (pe_op op_add pe_int (pe_df D_law_pick (hr.mono (by decide)) (by rfl) (pa_cons (pv 0) (pa_cons pe_int pa_nil)))) (pa_cons (pe_df D_law_anyrow (hr.mono (by decide)) (by rfl) (pa_cons (pv 0) (pa_cons pe_int pa_nil))) pa_nil)) (by rfl))
      (pss_cons (ps_if (pt_cmpR op_eq (pv 2) pe_int (nomark _)) (pss_one (ps_ret (pe_revT (pv 1)))) pss_nil)
      (pss_cons (ps_if (pt_cmpR op_eq (pv 2) pe_int (nomark _)) (pss_one (ps_ret (pe_op op_catB (pe_op op_catB (pe_slice sl_tupB (pv 1) po_none (po_some (pv 3))) (pe_tup (pa_cons (pe_tup (pa_cons (pe_ix ix_tup (pe_ix ix_tup (pv 1) (pv 3) (fun _ _ => rfl)) pe_int (fun _ _ => rfl)) (pa_cons (pv 4) pa_nil))) pa_nil))) (pe_slice sl_tupB (pv 1) (po_some (pe_op op_add (pv 3) pe_int)) po_none)))) pss_nil)
      (pss_cons (ps_if (pt_cmpR op_lt (pv 2) pe_int (nomark _)) (pss_one (ps_ret (pe_ifExp (pt_cmpR op_eq (pv 2) pe_int (nomark _)) (pe_op op_catB (pv 5) (pv 1)) (pe_op op_catB (pv 1) (pv 5))))) pss_nil)
      (pss_cons (ps_if (pt_cmpR op_eq (pv 2) pe_int (nomark _)) (pss_one (ps_ret (pe_df D_law_anyrow (hr.mono (by decide)) (by rfl) (pa_cons (pv 0) (pa_cons pe_int pa_nil))))) pss_nil)
      (C8.pss_cut (ps_asg (pe_ix ix_tup (pv 1) (pv 3) (fun _ _ => rfl)) (pg_tup rfl (pgs_cons (pg_name (i := 6) sc_law_near.nd rfl (.inl rfl)) (pgs_cons (pg_name (i := 4) sc_law_near.nd rfl (.inl rfl)) pgs_nil))))
      (pss_cons (ps_if (PW.pt (pw_and (pt_cmpR op_eq (pv 6) pe_str (nomark _)) (pw_and1 (pt_cmpR op_gt (pv 4) pe_int (nomark _))))) (pss_one (ps_ret (pe_op op_catB (pe_op op_catB (pe_slice sl_tupB (pv 1) po_none (po_some (pv 3))) (pe_tup (pa_cons (pe_tup (pa_cons pe_str (pa_cons pe_int pa_nil))) (pa_cons (pe_tup (pa_cons pe_str (pa_cons (pe_op op_sub (pv 4) pe_int) pa_nil))) pa_nil)))) (pe_slice sl_tupB (pv 1) (po_some (pe_op op_add (pv 3) pe_int)) po_none)))) pss_nil)
      (pss_one (ps_ret (pv 1))))))))))), ?_⟩
    refine ⟨fun σ' H' => ∃ (way : Int) (i : Nat), σ' = [some (.ref c), some (.ref t), some (.int way), some (.int (i : Int)), none, none, none] ∧ i < ds.length ∧ But c H H' ∧ TapeAt c (n + 2) H', ?_, ?_⟩
    · refine ⟨_, rfl, c, n, 7, rfl, ht, by omega, by decide, sm_p (by decide) (by decide), fun H1 way b1 t1 w0 w1 => ?_⟩
      refine ⟨_, rfl, _, rfl, t, _, rfl, .inr (SqT.of (b1 _ _ ntc hS0)), c, _, _, rfl, t1, by omega, by omega, sm_p (by omega) (by decide), fun H2 pl b2 t2 p0 p1 => ?_⟩
      refine ⟨_, _, rfl, way, pl.toNat, ?_, by omega, b1.trans b2, t2⟩
      rw [Int.toNat_of_nonneg p0]
      rfl
    rintro σ1 H1 ⟨way, i, rfl, ids, b1, t1⟩
    refine ⟨fun σ' H' => ∃ (z : Int) (g : Addr) (gs : List V) (ms : List PyData), σ' = [some (.ref c), some (.ref t), some (.int way), some (.int (i : Int)), some (.int z), some (.ref g), none] ∧ (1 ≤ z ∧ z ≤ 12) ∧ But c H H' ∧ TapeAt c (n + 20) H' ∧ H' g = some (.tup gs) ∧ Dhs c H' gs ms ∧ 1 ≤ ms.length ∧ ms.length ≤ 1 ∧ (∀ x ∈ ms, pieceG x = true), ?_, ?_⟩
    · refine ⟨_, rfl, c, _, 12, rfl, t1, by omega, by decide, sm_p (by decide) (by decide), fun H2 x b2 t2 x0 x1 => ?_⟩
      refine ⟨_, _, rfl, rfl, _, rfl, c, _, 1, rfl, t2, by omega, by decide, by decide, fun H3 m md b3 t3 hm hmg hml => ?_⟩
      obtain ⟨ms, rfl⟩ := row_tup hmg
      obtain ⟨q1, _, qp⟩ := row_parts hmg
      have q5 : (ms.length : Int) ≤ 1 := hml
      obtain ⟨g, gs, rfl, hg0, hgs⟩ := Dr.tuple hm
      exact ⟨_, _, rfl, 1 + x, g, gs, ms, rfl, by omega, (b1.trans b2).trans b3, t3, (hid_get hg0).2, hgs, q1, by omega, qp⟩
    rintro σ2 H2 ⟨z, g, gs, ms, rfl, hz, b2, t2, hg2, hgs, m1, m2, mp⟩
    have hS := b2 _ _ ntc hS0
    have hys := hys0.but b2
    have lg : gs.length = ms.length := hgs.1
    have put : ∀ {H' : Hp} {rr : Addr} {vs : List V} {es : List PyData}, Same H2 H' → H' rr = some (.tup vs) → Dhs c H' vs es → 1 ≤ es.length → es.length ≤ 8 → (∀ x ∈ es, pieceG x = true) → Q (.ref rr) H' := fun {H' rr vs es} s hr hh a b h => by
      have tt := t2.same s
      exact k H' _ _ (b2.trans (.of s)) (tt.le (by omega)) (dh_at tt hr hh) (row_mk a b h)
    have iys : i < ys.length := by omega
    have li : i ≤ ys.length := by omega
    have li1 : i + 1 ≤ ys.length := by omega
    have c1 : cutV ys none (some (i : Int)) = ys.take i := cutT li
    have c2 : cutV ys (some ((i : Int) + 1)) none = ys.drop (i + 1) := cutD (i := i + 1) li1
    have tk : (ys.take i).length ≤ 5 := by
      rw [List.length_take]
      omega
    have dk : (ys.drop (i + 1)).length ≤ 5 := by
      rw [List.length_drop]
      omega
    obtain ⟨x, hx⟩ : ∃ x, ds[i]? = some x := ⟨_, List.getElem?_eq_getElem ids⟩
    obtain ⟨xv, hxv, hxd⟩ := Drs.at_ hys hx
    obtain ⟨sx, nx, rfl, ws, wn, pk⟩ := piece_of (hpc x (List.mem_of_getElem? hx))
    obtain ⟨u, us, rfl, hu, hus⟩ := Dr.tuple hxd
    obtain ⟨nuc, hu2⟩ := hid_get hu
    obtain ⟨rfl⟩ : us = [.str sx, .int nx] := by
      match us, hus with
      | [x1, x2], hus =>
        have h1 := hus.inv.1.toStr
        have h2 := hus.inv.2.inv.1.toInt
        rw [h1, h2]
      | [], hus => exact absurd hus.1 (by simp)
      | [_], hus => exact absurd hus.1 (by simp)
      | _ :: _ :: _ :: _, hus => exact absurd hus.1 (by simp)
    have newp : ∀ b : Bool, ∀ z : Int, 1 ≤ z → z ≤ 12 → pieceG (.tuple [.str (wd b), .int z]) = true := fun b z h1 h2 => pcD_ok (p := (b, z)) ⟨h1, h2⟩
    -- some pieces in the place of one
    have setp : ∀ {H' : Hp} {rr : Addr} {xs : List V} {xd : List PyData}, Same H2 H' → H' rr = some (.tup (ys.take i ++ xs ++ ys.drop (i + 1))) → Dhs c H' xs xd → 1 ≤ xd.length → xd.length ≤ 2 → (∀ x ∈ xd, pieceG x = true) → Q (.ref rr) H' := fun {H' rr xs xd} s hr hh a b h => by
      refine put s hr (Drs.app (Drs.app (Drs.take (hys.same s) i) hh) (Drs.drop (hys.same s) (i + 1))) ?_ ?_ ?_
      · simp only [List.length_append]
        omega
      · simp only [List.length_append, List.length_take, List.length_drop]
        omega
      · intro y hy
        rcases List.mem_append.mp hy with hy | hy
        · rcases List.mem_append.mp hy with hy | hy
          · exact hpc y (List.mem_of_mem_take hy)
          · exact h y hy
        · exact hpc y (List.mem_of_mem_drop hy)
    refine ⟨_, rfl, rfl, _, rfl, ite2 (fun _ => ?_) (fun _ => ?_)⟩
    · refine ⟨_, rfl, t, ys, rfl, SqT.of hS, fun p np => ?_⟩
      have sp := same_upd (o := .tup ys.reverse) np
      exact put sp upd_same (Drs.rev (hys.same sp)) (by rw [List.length_reverse]; omega) (by rw [List.length_reverse]; omega) (fun y hy => hpc y (List.mem_reverse.mp hy))
    refine ⟨_, rfl, rfl, _, rfl, ite2 (fun _ => ?_) (fun _ => ?_)⟩
    · refine ⟨_, rfl, _, rfl, _, rfl, t, ys, rfl, hS, fun H3 p s3 hp => ?_⟩
      rw [c1] at hp
      refine ⟨_, rfl, _, rfl, t, _, _, _, rfl, rfl, SqT.of (s3 _ _ hS), atI_nat hxv, ?_⟩
      refine ⟨u, _, _, _, rfl, rfl, SqT.of (s3 _ _ hu2), atI_nat (j := 0) rfl, ?_⟩
      refine ⟨_, rfl, (by show 2 ≤ sizeLine; decide), fun q nq => ?_⟩
      have sq := same_upd (o := .tup [.str sx, .int z]) nq
      refine ⟨(by show 1 ≤ sizeLine; decide), fun q1 nq1 => ?_⟩
      have sq1 := same_upd (o := .tup [.ref q]) nq1
      refine ⟨p, q1, _, _, rfl, rfl, (sq.trans sq1) _ _ hp, upd_same, (by show _ + 1 ≤ 1000; omega), fun H4 r s4 hr' => ?_⟩
      have sA := ((s3.trans sq).trans sq1).trans s4
      refine ⟨_, rfl, _, rfl, _, _, rfl, rfl, _, rfl, t, ys, rfl, sA _ _ hS, fun H5 v s5 hv => ?_⟩
      rw [c2] at hv
      refine ⟨r, v, _, _, rfl, rfl, s5 _ _ hr', hv, ?_, fun H6 y s6 hy => ?_⟩
      · rw [List.length_append]
        show _ + 1 + _ ≤ 1000
        omega
      have sB := (sA.trans s5).trans s6
      have hq : H6 q = some (.tup [.str sx, .int z]) := (((sq1.trans s4).trans s5).trans s6) _ _ upd_same
      refine setp sB hy (Drs.cons (dh_at (t2.same sB) hq (Drs.cons (.str _) (Drs.cons (.int _) Drs.nil))) Drs.nil) (by show 1 ≤ 1; decide) (by show 1 ≤ 2; decide) (fun y hy => ?_)
      rw [List.mem_singleton.mp hy, ← ws]
      exact newp _ _ hz.1 hz.2
    refine ⟨_, rfl, _, _, rfl, rfl, _, rfl, ite2 (fun _ => ?_) (fun _ => ?_)⟩
    · refine ⟨_, rfl, rfl, _, rfl, ite2 (fun _ => ?_) (fun _ => ?_)⟩
      · refine ⟨_, rfl, _, rfl, g, t, _, _, rfl, rfl, hg2, hS, by omega, fun H3 r s3 hr' => ?_⟩
        refine put s3 hr' (Drs.app (hgs.same s3) (hys.same s3)) (by rw [List.length_append]; omega) (by rw [List.length_append]; omega) (fun y hy => ?_)
        rcases List.mem_append.mp hy with hy | hy
        · exact mp y hy
        · exact hpc y hy
      · refine ⟨_, rfl, _, rfl, t, g, _, _, rfl, rfl, hS, hg2, by omega, fun H3 r s3 hr' => ?_⟩
        refine put s3 hr' (Drs.app (hys.same s3) (hgs.same s3)) (by rw [List.length_append]; omega) (by rw [List.length_append]; omega) (fun y hy => ?_)
        rcases List.mem_append.mp hy with hy | hy
        · exact hpc y hy
        · exact mp y hy
    refine ⟨_, rfl, rfl, _, rfl, ite2 (fun _ => ?_) (fun _ => ?_)⟩
    · exact ⟨_, rfl, c, _, 4, rfl, t2, by omega, by decide, by decide, fun H3 v d b3 t3 hd hg _ => k H3 v d (b2.trans b3) (t3.le (by omega)) hd hg⟩
    refine ⟨fun σ' H' => σ' = [some (.ref c), some (.ref t), some (.int way), some (.int (i : Int)), some (.int nx), some (.ref g), some (.str sx)] ∧ H' = H2, ?_, ?_⟩
    · refine ⟨_, rfl, _, rfl, t, _, _, _, rfl, rfl, SqT.of hS, atI_nat hxv, ?_⟩
      refine ⟨u, _, rfl, SqT.of hu2, rfl, _, _, rfl, _, _, rfl, rfl, ?_⟩
      exact ⟨rfl, rfl⟩
    rintro σ3 H3 ⟨rfl, rfl⟩
    have back : Q (.ref t) H3 := put (Same.refl _) hS hys l1 (by omega) hpc
    refine ⟨_, rfl, rfl, _, rfl, ite2 (fun _ => ?_) (fun _ => ⟨_, rfl, back⟩)⟩
    refine ⟨_, rfl, _, _, rfl, rfl, _, rfl, ite2 (fun e2 => ?_) (fun _ => ⟨_, rfl, back⟩)⟩
    have nx1 : 1 < nx := of_decide_eq_true e2
    have nx2 : nx ≤ 12 := by
      have := pk.2
      rw [wn] at this
      exact this
    refine ⟨_, rfl, _, rfl, _, rfl, t, ys, rfl, hS, fun H4 p s4 hp => ?_⟩
    rw [c1] at hp
    refine ⟨(by show 2 ≤ sizeLine; decide), fun q nq => ?_⟩
    have sq := same_upd (o := .tup [.str (Str.ofString "rail"), .int 1]) nq
    refine ⟨_, rfl, _, _, rfl, rfl, (by show 2 ≤ sizeLine; decide), fun q2 nq2 => ?_⟩
    have sq2 := same_upd (o := .tup [.str (Str.ofString "rail"), .int (nx - 1)]) nq2
    refine ⟨(by show 2 ≤ sizeLine; decide), fun q1 nq1 => ?_⟩
    have sq1 := same_upd (o := .tup [.ref q, .ref q2]) nq1
    refine ⟨p, q1, _, _, rfl, rfl, ((sq.trans sq2).trans sq1) _ _ hp, upd_same, (by show _ + 2 ≤ 1000; omega), fun H5 r s5 hr' => ?_⟩
    have sA := (((s4.trans sq).trans sq2).trans sq1).trans s5
    refine ⟨_, rfl, _, rfl, _, _, rfl, rfl, _, rfl, t, ys, rfl, sA _ _ hS, fun H6 v s6 hv => ?_⟩
    rw [c2] at hv
    refine ⟨r, v, _, _, rfl, rfl, s6 _ _ hr', hv, ?_, fun H7 y s7 hy => ?_⟩
    · rw [List.length_append]
      show _ + 2 + _ ≤ 1000
      omega
    have sB := (sA.trans s6).trans s7
    have hq : H7 q = some (.tup [.str (wd true), .int 1]) := ((((sq2.trans sq1).trans s5).trans s6).trans s7) _ _ upd_same
    have hq2 : H7 q2 = some (.tup [.str (wd true), .int (nx - 1)]) := (((sq1.trans s5).trans s6).trans s7) _ _ upd_same
    refine setp sB hy (Drs.cons (dh_at (t2.same sB) hq (Drs.cons (.str _) (Drs.cons (.int _) Drs.nil))) (Drs.cons (dh_at (t2.same sB) hq2 (Drs.cons (.str _) (Drs.cons (.int _) Drs.nil))) Drs.nil)) (by show 1 ≤ 2; decide) (by show 2 ≤ 2; decide) (fun y hy => ?_)
    simp only [List.mem_cons, List.not_mem_nil, or_false] at hy
    rcases hy with rfl | rfl
    · exact newp _ _ (by decide) (by decide)
    · exact newp _ _ (by omega) (by omega)
abbrev s_law_crossing : Stmt := top 126
theorem sc_law_crossing : FnScope ["_law_tape", "_law_size", "_law_row"] ["_law_tape"] (defScope s_law_crossing) := ⟨rfl, rfl, rfl, by decide +kernel, rfl, by decide +kernel, by decide +kernel⟩

theorem ok_cross {f : Addr} {fd : FuncData} (F : Fun K "_law_crossing" "_law_crossing" s_law_crossing f fd) (D_law_pick : Df P w K mg base 1 "_law_pick" ["_law_tape", "_law_many"] spDraw) : FnOk P w K mg base CX0 2 f fd ["_law_tape"] spCross := by
  refine F.ok sc_law_crossing (fun vs H Q E h => ?_) (fun cdv A outer s H vs Q E hr h => ?_)
  · obtain ⟨c, n, rfl, _⟩ := h
    rfl
  · obtain ⟨c, n, rfl, ht, hn, k⟩ := h
    refine ⟨_, (pss_cons (ps_set (i := 1) sc_law_crossing.nd rfl (.inl rfl) (pe_op op_add pe_int (pe_df D_law_pick (hr.mono (by decide)) (by rfl) (pa_cons (pv 0) (pa_cons pe_int pa_nil)))))
      (pss_cons (ps_set (i := 2) sc_law_crossing.nd rfl (.inl rfl) (pe_tup (pa_cons (pe_tup (pa_cons pe_str (pa_cons (pe_op op_add (pe_op op_add (pv 1) pe_int) (pe_df D_law_pick (hr.mono (by decide)) (by rfl) (pa_cons (pv 0) (pa_cons pe_int pa_nil)))) pa_nil))) (pa_cons (pe_tup (pa_cons pe_str (pa_cons (pe_op op_add pe_int (pe_df D_law_pick (hr.mono (by decide)) (by rfl) (pa_cons (pv 0) (pa_cons pe_int pa_nil)))) pa_nil))) pa_nil))))
      (pss_one (ps_ret (pe_tup (pa_cons (pv 2) (pa_cons (pe_tup (pa_cons (pe_tup (pa_cons pe_str (pa_cons (pv 1) pa_nil))) (pa_cons (pe_tup (pa_cons pe_str (pa_cons pe_int pa_nil))) (pa_cons (pe_tup (pa_cons pe_str (pa_cons pe_int pa_nil))) pa_nil)))) pa_nil))))))), ?_⟩
    refine ⟨_, rfl, c, n, 6, rfl, ht, by omega, by decide, sm_p (by decide) (by decide), fun H1 x b1 t1 x0 x1 => ?_⟩
    refine ⟨_, _, rfl, rfl, ?_⟩
    refine ⟨_, rfl, _, _, rfl, rfl, _, rfl, c, _, 3, rfl, t1, by omega, by decide, sm_p (by decide) (by decide), fun H2 y b2 t2 y0 y1 => ?_⟩
    refine ⟨_, _, rfl, rfl, (by show 2 ≤ sizeLine; decide), fun g1 n1 => ?_⟩
    have s1 := same_upd (o := .tup [.str (Str.ofString "rail"), .int (1 + x + 4 + y)]) n1
    refine ⟨_, rfl, c, _, 8, rfl, t2.same s1, by omega, by decide, sm_p (by decide) (by decide), fun H3 z b3 t3 z0 z1 => ?_⟩
    refine ⟨_, _, rfl, rfl, (by show 2 ≤ sizeLine; decide), fun g2 n2 => ?_⟩
    have s2 := same_upd (o := .tup [.str (Str.ofString "rung"), .int (1 + z)]) n2
    refine ⟨(by show 2 ≤ sizeLine; decide), fun r nr => ?_⟩
    have s3 := same_upd (o := .tup [.ref g1, .ref g2]) nr
    refine ⟨_, rfl, _, rfl, (by show 2 ≤ sizeLine; decide), fun g3 n3 => ?_⟩
    have s4 := same_upd (o := .tup [.str (Str.ofString "rail"), .int (1 + x)]) n3
    refine ⟨(by show 2 ≤ sizeLine; decide), fun g4 n4 => ?_⟩
    have s5 := same_upd (o := .tup [.str (Str.ofString "rung"), .int 12]) n4
    refine ⟨(by show 2 ≤ sizeLine; decide), fun g5 n5 => ?_⟩
    have s6 := same_upd (o := .tup [.str (Str.ofString "rail"), .int 12]) n5
    refine ⟨(by show 3 ≤ sizeLine; decide), fun r2 nr2 => ?_⟩
    have s7 := same_upd (o := .tup [.ref g3, .ref g4, .ref g5]) nr2
    refine ⟨(by show 2 ≤ sizeLine; decide), fun p np => ?_⟩
    have s8 := same_upd (o := .tup [.ref r, .ref r2]) np
    have s78 := s7.trans s8
    have s68 := s6.trans s78
    have s58 := s5.trans s68
    have s48 := s4.trans s58
    have s38 := s3.trans s48
    have s28 := s2.trans s38
    have t9 := t3.same s28
    have hg1 := s28 _ _ (b3 _ _ ((t2.same s1).nt (xs := [.str (Str.ofString "rail"), .int (1 + x + 4 + y)]) upd_same) upd_same)
    have pc : ∀ {H' : Hp} {g : Addr} {b : Bool} {i : Int}, TapeAt c (n + 1 + 1 + 1) H' → H' g = some (.tup [.str (wd b), .int i]) → Dh c H' (.ref g) (.tuple [.str (wd b), .int i]) := fun t h => dh_at t h (Drs.cons (.str _) (Drs.cons (.int _) Drs.nil))
    have ok1 : ∀ (b : Bool) (i : Int), 1 ≤ i → i ≤ 12 → pieceG (.tuple [.str (wd b), .int i]) = true := fun b i h1 h2 => pcD_ok (p := (b, i)) ⟨h1, h2⟩
    refine k _ p _ _ _ _ (((b1.trans b2).trans (.of s1)).trans (b3.trans (.of s28))) t9 upd_same (dh_at t9 (s48 _ _ upd_same) (Drs.cons (pc (b := true) t9 hg1) (Drs.cons (pc (b := false) t9 (s38 _ _ upd_same)) Drs.nil))) (row_mk (by show 1 ≤ 2; decide) (by show 2 ≤ 8; decide) fun y hy => ?_) (dh_at t9 (s8 _ _ upd_same) (Drs.cons (pc (b := true) t9 (s58 _ _ upd_same)) (Drs.cons (pc (b := false) t9 (s68 _ _ upd_same)) (Drs.cons (pc (b := true) t9 (s78 _ _ upd_same)) Drs.nil)))) (row_mk (by show 1 ≤ 3; decide) (by show 3 ≤ 8; decide) fun y hy => ?_)
    · simp only [List.mem_cons, List.not_mem_nil, or_false] at hy
      rcases hy with rfl | rfl
      · exact ok1 _ _ (by omega) (by omega)
      · exact ok1 _ _ (by omega) (by omega)
    · simp only [List.mem_cons, List.not_mem_nil, or_false] at hy
      rcases hy with rfl | rfl | rfl
      · exact ok1 _ _ (by omega) (by omega)
      · exact ok1 _ _ (by decide) (by decide)
      · exact ok1 _ _ (by decide) (by decide)
end
end RL

set_option maxHeartbeats 4000000
namespace RL
open PySem L2 PySem.Spec PyProof.Rows
/-! ### the limit of a ladder: the law -/
theorem gc_if (a b : Int) : gc a (if b < 0 then -b else b) = gc a b := by
  unfold gc
  split
  · rw [Int.gcd_neg]
  · rfl
theorem div_div' {a g : Int} (ha : 0 < a) (d : g ∣ a) (hg : 0 < g) : a / (a / g) = g := by
  have e := ex_mul d hg
  have p : 1 ≤ a / g := by
    rcases Int.lt_or_le 0 (a / g) with z | z
    · omega
    · have := Int.mul_nonpos_of_nonneg_of_nonpos (Int.le_of_lt hg) z
      omega
  generalize a / g = q at *
  subst e
  exact Int.mul_ediv_cancel _ (by omega)
theorem div_pos' {a g : Int} (ha : 0 < a) (d : g ∣ a) (hg : 0 < g) : 0 < a / g := by
  have e := ex_mul d hg
  rcases Int.lt_or_le 0 (a / g) with z | z
  · omega
  · have := Int.mul_nonpos_of_nonneg_of_nonpos (Int.le_of_lt hg) z
    omega
def spLLim : Sp := fun vs H Q _ => ∃ (v : V) (r : List Pc), vs = [v] ∧ RowT H v r ∧ ∀ H' v', Same H H' → Dn H H' v' (limD r) → Q v' H'
section
variable {P : Program} {w : World} {K : PySem.W.Frag} {mg : Str → Option Value} {base : Heap} {tG t1 t3 tC tK tP : Tok} {aO aW aCh Ce : Addr}
abbrev s_law_limit : Stmt := top 123
theorem sc_law_limit : FnScope ["_law_row", "_law_a", "_law_c", "_law_b", "_law_d", "_law_inner", "_law_root", "_law_top", "_law_bottom", "_law_by"] ["_law_row"] (defScope s_law_limit) := ⟨rfl, rfl, rfl, by decide +kernel, rfl, by decide +kernel, by decide +kernel⟩

theorem ok_llim {f : Addr} {fd : FuncData} (F : Fun K "_law_limit" "_law_limit" s_law_limit f fd) (T : TxtA K mg w tG t1 t3 tC tK aO aW aCh) (D_law_led : Df P w K mg base 1 "_law_led" ["_law_row", "_law_pair"] spLed) (D_law_isqrt : Df P w K mg base 1 "_law_isqrt" ["_law_number"] spIsq) (D_law_lowest : Df P w K mg base 1 "_law_lowest" ["_law_top", "_law_bottom"] spPair) : FnOk P w K mg base CX0 2 f fd ["_law_row"] spLLim := by
  refine F.ok sc_law_limit (fun vs H Q E h => ?_) (fun cdv A outer s H vs Q E hr h => ?_)
  · obtain ⟨v, r, rfl, _⟩ := h
    rfl
  · obtain ⟨v, r, rfl, hrow, k⟩ := h
    refine ⟨_, (pss_cons (ps_asg (pe_df D_law_led (hr.mono (by decide)) (by rfl) (pa_cons (pv 0) (pa_cons (pd_tup (pds_cons pd_int (pds_cons pd_int pds_nil))) pa_nil))) (pg_tup rfl (pgs_cons (pg_name (i := 1) sc_law_limit.nd rfl (.inl rfl)) (pgs_cons (pg_name (i := 2) sc_law_limit.nd rfl (.inl rfl)) pgs_nil))))
      (pss_cons (ps_asg (pe_df D_law_led (hr.mono (by decide)) (by rfl) (pa_cons (pv 0) (pa_cons (pd_tup (pds_cons pd_int (pds_cons pd_int pds_nil))) pa_nil))) (pg_tup rfl (pgs_cons (pg_name (i := 3) sc_law_limit.nd rfl (.inl rfl)) (pgs_cons (pg_name (i := 4) sc_law_limit.nd rfl (.inl rfl)) pgs_nil))))
      (pss_cons (ps_if (pt_cmpR op_eq (pv 2) pe_int (nomark _)) (pss_one (ps_ret (pd_tup (pds_cons pd_int (pds_cons pd_int pds_nil))))) pss_nil)
      (pss_cons (ps_if (pt_cmpR op_eq (pv 3) pe_int (nomark _)) (pss_one (ps_ret (pd_tup (pds_cons pd_int (pds_cons pd_int (pds_cons pd_int pds_nil)))))) pss_nil)
      (pss_cons (ps_set (i := 5) sc_law_limit.nd rfl (.inl rfl) (pe_op op_add (pe_op op_mulX (pe_op op_sub (pv 4) (pv 1)) (pe_op op_sub (pv 4) (pv 1))) (pe_op op_mulX (pe_op op_mul pe_int (pv 3)) (pv 2))))
      (pss_cons (ps_set (i := 6) sc_law_limit.nd rfl (.inl rfl) (pe_df D_law_isqrt (hr.mono (by decide)) (by rfl) (pa_cons (pv 5) pa_nil)))
      (pss_cons (ps_if (pt_cmpR op_eq (pe_op op_mulX (pv 6) (pv 6)) (pv 5) (nomark _)) (pss_cons (ps_asg (pe_df D_law_lowest (hr.mono (by decide)) (by rfl) (pa_cons (pe_op op_sub (pe_op op_add (pv 6) (pv 1)) (pv 4)) (pa_cons (pe_op op_mul pe_int (pv 2)) pa_nil))) (pg_tup rfl (pgs_cons (pg_name (i := 7) sc_law_limit.nd rfl (.inl rfl)) (pgs_cons (pg_name (i := 8) sc_law_limit.nd rfl (.inl rfl)) pgs_nil))))
      (pss_one (ps_ret (pe_tup (pa_cons pe_int (pa_cons (pv 8) (pa_cons (pv 7) pa_nil))))))) pss_nil)
      (pss_cons (ps_set (i := 9) sc_law_limit.nd rfl (.inl rfl) (pe_op op_fdivW (pv 2) (pe_ix ix_tup (pe_df D_law_lowest (hr.mono (by decide)) (by rfl) (pa_cons (pv 2) (pa_cons (pe_callB call_abs (by rfl) T.abs (by decide +kernel) (pa_cons (pe_op op_sub (pv 4) (pv 1)) pa_nil)) pa_nil))) pe_int (fun _ _ => rfl))))
      (pss_cons (ps_set (i := 9) sc_law_limit.nd rfl (.inl rfl) (pe_op op_fdivW (pv 9) (pe_ix ix_tup (pe_df D_law_lowest (hr.mono (by decide)) (by rfl) (pa_cons (pv 9) (pa_cons (pv 3) pa_nil))) pe_int (fun _ _ => rfl))))
      (pss_one (ps_ret (pe_tup (pa_cons (pe_op op_fdivW (pv 2) (pv 9)) (pa_cons (pe_op op_fdivW (pe_op op_sub (pv 4) (pv 1)) (pv 9)) (pa_cons (pe_op op_fdivW (pv 3) (pv 9)) pa_nil))))))))))))))), ?_⟩
    obtain ⟨_, _, _, _, _, hok, _, l8⟩ := id hrow
    obtain ⟨za, zb, zc, zd⟩ := matR_sm30 hok l8
    obtain ⟨a0, _, b0, _, c0, _, d0, _⟩ := matR_le hok l8
    have o1 : Sm 3900 1 := by unfold Sm; decide +kernel
    have o0 : Sm 3900 0 := by unfold Sm; decide +kernel
    refine ⟨_, rfl, ?_⟩
    intro H1 v1 s1 h1
    obtain ⟨p1, rfl, hp1⟩ := lit_pair h1
    refine ⟨v, p1, r, (1, 0), rfl, hrow.same s1, hp1, o1, o0, fun H2 q2 s2 nq2 hq2 => ?_⟩
    rw [act_10] at hq2
    have sA := s1.trans s2
    refine ⟨q2, _, rfl, SqT.of hq2, rfl, _, _, rfl, _, _, rfl, rfl, ?_⟩
    refine ⟨_, rfl, ?_⟩
    intro H3 v3 s3 h3
    obtain ⟨p3, rfl, hp3⟩ := lit_pair h3
    refine ⟨v, p3, r, (0, 1), rfl, hrow.same (sA.trans s3), hp3, o0, o1, fun H4 q4 s4 nq4 hq4 => ?_⟩
    rw [act_01] at hq4
    have sB := (sA.trans s3).trans s4
    refine ⟨q4, _, rfl, SqT.of hq4, rfl, _, _, rfl, _, _, rfl, rfl, ?_⟩
    have hL : limD r = if (matR r).c = 0 then .tuple [.int 1, .int 0] else if (matR r).b = 0 then .tuple [.int 0, .int 1, .int 0] else .tuple [.int (parts (matR r).c ((matR r).d - (matR r).a) (matR r).b).1, .int (parts (matR r).c ((matR r).d - (matR r).a) (matR r).b).2.1, .int (parts (matR r).c ((matR r).d - (matR r).a) (matR r).b).2.2] := by
      unfold limD eqL
      split
      · rfl
      · split <;> rfl
    rw [hL] at k
    have fin : ∀ {H' : Hp} {v' : V} {d : PyData}, Same H4 H' → Dn H4 H' v' d → Dn H H' v' d := fun {H' v' d} s h => Dr.mono h (fresh_dn sB)
    have tup3 : ∀ {H' : Hp} {p : Addr} {x y z : Int}, Same H4 H' → H' p = none → Dn H (upd H' p (.tup [.int x, .int y, .int z])) (.ref p) (.tuple [.int x, .int y, .int z]) := fun {H' p x y z} s np => by
      have nH : H p = none := (sB.trans s).free np
      exact Dr.ts (fresh_of nH upd_same) (Drs.cons (.int _) (Drs.cons (.int _) (Drs.cons (.int _) Drs.nil)))
    generalize (matR r).a = ra at *
    generalize (matR r).b = rb at *
    generalize (matR r).c = rc at *
    generalize (matR r).d = rd at *
    refine ⟨_, rfl, rfl, _, rfl, ite2 (fun g1 => ?_) (fun g1 => ?_)⟩
    · have g1 : rc = 0 := V.int.inj (of_decide_eq_true g1)
      rw [if_pos g1] at k
      exact fun H5 v5 s5 h5 => k _ _ (sB.trans s5) (fin s5 h5)
    have c1 : rc ≠ 0 := fun z => g1 (decide_eq_true (by rw [z]))
    rw [if_neg c1] at k
    refine ⟨_, rfl, rfl, _, rfl, ite2 (fun g2 => ?_) (fun g2 => ?_)⟩
    · have g2 : rb = 0 := V.int.inj (of_decide_eq_true g2)
      rw [if_pos g2] at k
      exact fun H5 v5 s5 h5 => k _ _ (sB.trans s5) (fin s5 h5)
    have b1 : rb ≠ 0 := fun z => g2 (decide_eq_true (by rw [z]))
    rw [if_neg b1] at k
    have cp : 0 < rc := by omega
    have bp : 0 < rb := by omega
    have zda : Sm 31 (rd - ra) := zd.sub za
    have four : Sm 3 4 := by unfold Sm; decide
    have two : Sm 2 2 := by unfold Sm; decide
    have n4 : 0 ≤ 4 * rb * rc := Int.mul_nonneg (by omega) (by omega)
    have nsq : 0 ≤ (rd - ra) * (rd - ra) := by
      rcases Int.le_total 0 (rd - ra) with z | z
      · exact Int.mul_nonneg z z
      · exact Int.mul_nonneg_of_nonpos_of_nonpos z z
    refine ⟨_, rfl, _, rfl, _, _, rfl, rfl, _, rfl, _, rfl, _, _, rfl, rfl, _, _, rfl, rfl, mx zda zda, _, rfl, _, _, rfl, rfl, .inl ⟨by decide, by decide⟩, _, rfl, _, _, rfl, rfl, mx (four.mul zb) zc, _, _, rfl, rfl, ?_⟩
    have zin : Sm 68 ((rd - ra) * (rd - ra) + 4 * rb * rc) := (((zda.mul zda).mono (by decide : (31 : Nat) + 31 ≤ 67)).add ((((four.mul zb).mul zc)).mono (by decide : 3 + 30 + 30 ≤ 67)))
    refine ⟨_, rfl, _, rfl, Int.add_nonneg nsq n4, zin.mono (by decide), fun H5 g s5 g0 gl gu => ?_⟩
    have eg : g = rt ((rd - ra) * (rd - ra) + 4 * rb * rc) := rt_of ⟨g0, gl, gu⟩
    have ein : (rd - ra) * (rd - ra) + 4 * rb * rc = (rd - ra) * (rd - ra) + 4 * rc * rb := by grind
    have sC := sB.trans s5
    have zg : Sm 68 g := zin.of (Int.le_trans (Int.neg_nonpos_of_nonneg (Int.add_nonneg nsq n4)) g0) (dbl (Int.add_nonneg nsq n4) gl)
    have hp : parts rc (rd - ra) rb = if g * g = (rd - ra) * (rd - ra) + 4 * rb * rc then (0, 2 * rc / gc (g - (rd - ra)) (2 * rc), (g - (rd - ra)) / gc (g - (rd - ra)) (2 * rc)) else (rc / gc (gc rc (rd - ra)) rb, (rd - ra) / gc (gc rc (rd - ra)) rb, rb / gc (gc rc (rd - ra)) rb) := by
      unfold parts
      rw [if_neg c1, ← ein, ← eg]
    rw [hp] at k
    refine ⟨_, rfl, _, rfl, _, _, rfl, rfl, mx zg zg, _, rfl, rfl, _, rfl, ite2 (fun g3 => ?_) (fun g3 => ?_)⟩
    · have g3 : g * g = (rd - ra) * (rd - ra) + 4 * rb * rc := V.int.inj (of_decide_eq_true g3)
      rw [if_pos g3] at k
      have e1 : g + ra - rd = g - (rd - ra) := by omega
      have gb : rd - ra < g := by
        rcases Int.lt_or_le (rd - ra) g with z | z
        · exact z
        · have h1 : g * g ≤ (rd - ra) * (rd - ra) := Int.mul_le_mul z z g0 (by omega)
          have h2 : 0 < 4 * rb * rc := Int.mul_pos (by omega) cp
          omega
      refine ⟨_, rfl, _, rfl, _, _, rfl, rfl, _, rfl, _, _, rfl, rfl, _, rfl, _, _, rfl, rfl, .inl ⟨by decide, by decide⟩, ?_⟩
      refine ⟨g + ra - rd, 2 * rc, rfl, ⟨by show 0 ≤ g + ra - rd; omega, by show 0 ≤ 2 * rc; omega, .inr (by show 0 < 2 * rc; omega)⟩, (by rw [e1]; exact ((zg.sub (zda.mono (by decide))).mono (by decide))), (two.mul zc).mono (by decide), fun H6 q s6 nq hq => ?_⟩
      rw [e1] at hq
      refine ⟨q, _, rfl, SqT.of hq, rfl, _, _, rfl, _, _, rfl, rfl, ?_⟩
      refine ⟨_, rfl, _, rfl, (by show 3 ≤ sizeLine; decide), fun p np => ?_⟩
      have s46 := s5.trans s6
      exact k _ _ ((sB.trans s46).trans (same_upd np)) (tup3 s46 np)
    · have g3 : ¬ g * g = (rd - ra) * (rd - ra) + 4 * rb * rc := fun z => g3 (decide_eq_true (congrArg V.int z))
      rw [if_neg g3] at k
      have gd : 0 < gc rc (rd - ra) := gc_pos (.inl c1)
      have zi : Sm 31 (if rd - ra < 0 then -(rd - ra) else rd - ra) := by
        split
        · exact zda.neg
        · exact zda
      have i0 : 0 ≤ (if rd - ra < 0 then -(rd - ra) else rd - ra) := by split <;> omega
      have q1 : rc / (low (rc, if rd - ra < 0 then -(rd - ra) else rd - ra)).1 = gc rc (rd - ra) := by
        show rc / (rc / gc rc (if rd - ra < 0 then -(rd - ra) else rd - ra)) = _
        rw [gc_if]
        exact div_div' cp (gc_dvd1 _ _) gd
      have l1 : 0 < (low (rc, if rd - ra < 0 then -(rd - ra) else rd - ra)).1 := by
        show 0 < rc / gc rc (if rd - ra < 0 then -(rd - ra) else rd - ra)
        rw [gc_if]
        exact div_pos' cp (gc_dvd1 _ _) gd
      have zl1 := low_sm (e := (rc, if rd - ra < 0 then -(rd - ra) else rd - ra)) (n := 31) ⟨c0, i0, .inl cp⟩ (zc.mono (by decide)) zi
      refine ⟨_, rfl, _, rfl, _, rfl, _, rfl, _, _, rfl, rfl, _, rfl, rc, _, rfl, ⟨c0, i0, .inl cp⟩, zc.mono (by decide), zi.mono (by decide), fun H6 q s6 nq hq => ?_⟩
      obtain ⟨w1, hw1⟩ : ∃ w, w = (low (rc, if rd - ra < 0 then -(rd - ra) else rd - ra)).1 := ⟨_, rfl⟩
      rw [← hw1] at hq q1 l1
      have zw1 : Sm 31 w1 := by rw [hw1]; exact zl1.1
      refine ⟨q, _, _, _, rfl, rfl, SqT.of hq, atI_nat (j := 0) rfl, _, _, rfl, rfl, dvw l1 zw1 (by decide) (by decide), ?_⟩
      have g1p : 0 < rc / w1 := by rw [q1]; exact gd
      have zg1 : Sm 31 (rc / w1) := by
        rw [q1, ← gc_if]
        exact gc_sm (n := 31) ⟨c0, i0, .inl cp⟩ (zc.mono (by decide)) zi
      have gd2 : 0 < gc (rc / w1) rb := gc_pos (.inr b1)
      have q2 : rc / w1 / (low (rc / w1, rb)).1 = gc (rc / w1) rb := div_div' g1p (gc_dvd1 _ _) gd2
      have l2 : 0 < (low (rc / w1, rb)).1 := div_pos' g1p (gc_dvd1 _ _) gd2
      have zl2 := low_sm (e := (rc / w1, rb)) (n := 31) ⟨Int.le_of_lt g1p, b0, .inl g1p⟩ zg1 (zb.mono (by decide))
      refine ⟨_, rfl, _, rfl, _, rfl, rc / w1, rb, rfl, ⟨Int.le_of_lt g1p, b0, .inl g1p⟩, zg1.mono (by decide), zb.mono (by decide), fun H7 q7 s7 nq7 hq7 => ?_⟩
      obtain ⟨w2, hw2⟩ : ∃ w, w = (low (rc / w1, rb)).1 := ⟨_, rfl⟩
      rw [← hw2] at hq7 q2 l2
      have zw2 : Sm 31 w2 := by rw [hw2]; exact zl2.1
      refine ⟨q7, _, _, _, rfl, rfl, SqT.of hq7, atI_nat (j := 0) rfl, _, _, rfl, rfl, dvw l2 zw2 (by decide) (by decide), ?_⟩
      have zby : Sm 31 (rc / w1 / w2) := by
        rw [q2]
        exact gc_sm (t := rc / w1) (b := rb) (n := 31) ⟨Int.le_of_lt g1p, b0, .inl g1p⟩ zg1 (zb.mono (by decide))
      have byp : 0 < rc / w1 / w2 := by rw [q2]; exact gd2
      have eby : gc (gc rc (rd - ra)) rb = rc / w1 / w2 := by rw [q2, q1]
      rw [eby] at k
      have s57 := (s5.trans s6).trans s7
      refine ⟨_, rfl, _, rfl, _, _, rfl, rfl, dvw byp zby (by decide) (by decide), _, rfl, _, rfl, _, _, rfl, rfl, _, rfl, _, _, rfl, rfl, dvw byp zby (by decide) (by decide), _, rfl, _, rfl, _, _, rfl, rfl, dvw byp zby (by decide) (by decide), (by show 3 ≤ sizeLine; decide), fun p np => ?_⟩
      exact k _ _ ((sB.trans s57).trans (same_upd np)) (tup3 s57 np)
end
end RL

set_option maxHeartbeats 4000000
namespace RL
open PySem L2 PySem.Spec PyProof.Rows
def spNevR : Sp := fun vs H Q _ => ∃ (v u : V) (r m : List Pc), vs = [v, u] ∧ RowT H v r ∧ RowT H u m ∧ ∀ H', Same H H' → Q (.bl true) H'
def spLimR : Sp := fun vs H Q _ => ∃ (v u : V) (r : List Pc) (d : PyData), vs = [v, u] ∧ RowT H v r ∧ Dr H u d ∧ resG d = true ∧ ∀ H', Same H H' → Q (.bl true) H'
theorem dp_nev {K : PySem.W.Frag} {H : Hp} {z cl em : Addr} {q1 q2 : V} {r m : List Pc} (hz : H z = some (.tup [.ref cl, .ref em])) (hem : H em = some (.tup [])) (hcl : H cl = some (.tup [.str (Str.ofString "never"), q1, q2])) (g1 : RowT H q1 r) (g2 : RowT H q2 m) : Dp K H (.ref z) (nevD r m) :=
  .tup (SqT.of hz) (.cons (.tup (SqT.of hcl) (.cons (.str _) (.cons (row_dp g1) (.cons (row_dp g2) .nil)))) (.cons (em_dp hem) .nil))
theorem dp_mor {K : PySem.W.Frag} {H : Hp} {z cl em p : Addr} {q1 q2 : V} {r m : List Pc} {e : Int × Int} (hz : H z = some (.tup [.ref cl, .ref em])) (hem : H em = some (.tup [])) (hcl : H cl = some (.tup [.str (Str.ofString "more"), q1, q2, .ref p])) (g1 : RowT H q1 r) (g2 : RowT H q2 m) (hp : PrT K H p e) : Dp K H (.ref z) (morD r m e) :=
  .tup (SqT.of hz) (.cons (.tup (SqT.of hcl) (.cons (.str _) (.cons (row_dp g1) (.cons (row_dp g2) (.cons (dp_pr hp) .nil))))) (.cons (em_dp hem) .nil))
theorem dp_lim {K : PySem.W.Frag} {H : Hp} {z cl em lp : Addr} {q tv : V} {r : List Pc} {e : Int × Int} (hz : H z = some (.tup [.ref cl, .ref em])) (hem : H em = some (.tup [])) (hcl : H cl = some (.tup [.str (Str.ofString "limit"), q, .ref lp, tv])) (g : RowT H q r) (hp : PrT K H lp e) (ht : Dp K H tv (limD r)) : Dp K H (.ref z) (limC r e) :=
  .tup (SqT.of hz) (.cons (.tup (SqT.of hcl) (.cons (.str _) (.cons (row_dp g) (.cons (dp_pr hp) (.cons ht .nil))))) (.cons (em_dp hem) .nil))
theorem lim_nodict (r : List Pc) : (limD r).hasDict = false := by
  unfold limD
  split <;> rfl
theorem parts_sm31 {a b c : Int} (h : Good a b c) (ha : Sm 31 a) (hb : Sm 31 b) (hc : Sm 31 c) : Sm 80 (parts a b c).1 ∧ Sm 80 (parts a b c).2.1 ∧ Sm 80 (parts a b c).2.2 := by
  unfold parts
  rcases h with ⟨rfl, h2, h3⟩ | h
  · rw [if_pos rfl]
    have g0 : 0 < gc c b := gc_pos (.inr (by omega))
    exact ⟨show Sm 80 0 by unfold Sm; decide, (hb.div g0).mono (by decide), (hc.div g0).mono (by decide)⟩
  · rw [if_neg (by omega)]
    have k := inside_pos (b := b) h
    have hd : Sm 80 (b * b + 4 * a * c) := by
      have h4 : Sm 3 4 := by unfold Sm; decide
      have e1 : Sm (31 + 31) (b * b) := hb.mul hb
      have e2 : Sm (3 + 31 + 31) (4 * a * c) := (h4.mul ha).mul hc
      exact (Sm.add (n := 79) (e1.mono (by decide)) (e2.mono (by decide)))
    have hr : Sm 40 (rt (b * b + 4 * a * c)) := rt_sm (n := 40) k.2 hd
    have h2 : Sm 2 2 := by unfold Sm; decide
    split
    · have g0 : 0 < gc (rt (b * b + 4 * a * c) - b) (2 * a) := gc_pos (.inr (by omega))
      refine ⟨show Sm 80 0 by unfold Sm; decide, ?_, ?_⟩
      · exact ((h2.mul ha).div g0).mono (by decide)
      · exact ((hr.sub (hb.mono (by decide))).div g0).mono (by decide)
    · have g0 : 0 < gc (gc a b) c := gc_pos (.inr (by omega))
      exact ⟨(ha.div g0).mono (by decide), (hb.div g0).mono (by decide), (hc.div g0).mono (by decide)⟩
theorem lim_tame {r : List Pc} (ok : RowOk r) (l8 : r.length ≤ 8) : Tame 700 2 (limD r) := by
  have z0 : Sm 200 0 := by unfold Sm; decide +kernel
  have z1 : Sm 200 1 := by unfold Sm; decide +kernel
  by_cases c0 : (matR r).c = 0
  · rw [show limD r = .tuple [.int 1, .int 0] from if_pos c0]
    exact (tame_2 (tame_int z1) (tame_int z0)).mono
  · rw [show limD r = .tuple [.int (eqL r).1, .int (eqL r).2.1, .int (eqL r).2.2] from if_neg c0]
    have hs : Sm 80 (eqL r).1 ∧ Sm 80 (eqL r).2.1 ∧ Sm 80 (eqL r).2.2 := by
      obtain ⟨za, zb, zc, zd⟩ := matR_sm30 ok l8
      obtain ⟨a0, _, b0, _, cc0, _, d0, _⟩ := matR_le ok l8
      unfold eqL
      split
      · exact ⟨by unfold Sm; decide, by unfold Sm; decide, by unfold Sm; decide⟩
      · exact parts_sm31 (.inr ⟨by omega, by omega⟩) (zc.mono (by decide)) (zd.sub za) (zb.mono (by decide))
    exact (TameL.tup (TameL.cons (tame_int (hs.1.mono (by decide))) (TameL.cons (tame_int (hs.2.1.mono (by decide))) (TameL.cons (tame_int (hs.2.2.mono (by decide))) (TameL.nil (w := 0)))))).mono
theorem res_pr {d : PyData} (h : resG d = true) : prOf d = (1, 0) ∨ (0 ≤ (prOf d).1 ∧ (prOf d).1 ≤ 1000000000000 ∧ 1 ≤ (prOf d).2 ∧ (prOf d).2 ≤ 1000000000000) := by
  cases d with
  | int i =>
    have h : (decide (0 ≤ i) && decide (i ≤ 1000000000000)) = true := h
    simp only [Bool.and_eq_true, decide_eq_true_eq] at h
    exact .inr ⟨h.1, h.2, by show (1 : Int) ≤ 1; decide, by show (1 : Int) ≤ 1000000000000; decide⟩
  | tuple ds =>
    match ds, h with
    | [a, b], h =>
      have h : resOf a b = true := h
      cases a with
      | int a =>
        cases b with
        | int b =>
          have h : (decide (a = 1 ∧ b = 0) || (decide (0 ≤ a) && decide (a ≤ 1000000000000) && (decide (1 ≤ b) && decide (b ≤ 1000000000000)))) = true := h
          simp only [Bool.or_eq_true, Bool.and_eq_true, decide_eq_true_eq] at h
          rcases h with ⟨rfl, rfl⟩ | ⟨⟨h1, h2⟩, h3, h4⟩
          · exact .inl rfl
          · exact .inr ⟨h1, h2, h3, h4⟩
        | _ => exact absurd h (by simp [resOf])
      | _ => exact absurd h (by simp [resOf])
    | [], h => exact absurd h (by simp [resG])
    | [_], h => exact absurd h (by simp [resG])
    | _ :: _ :: _ :: _, h => exact absurd h (by simp [resG])
  | _ => exact absurd h (by simp [resG])
theorem res_low {d : PyData} (h : resG d = true) : resG (prD (low (prOf d))) = true := by
  have pd := num_pos (res_num h).1
  rcases res_pr h with e | ⟨h1, h2, h3, h4⟩
  · rw [e]
    decide +kernel
  · have g0 := gc_pos2 pd
    have b1 := low_bot pd (by omega)
    have b2 : (low (prOf d)).2 ≤ (prOf d).2 := Int.ediv_le_self _ (by omega)
    have a2 : (low (prOf d)).1 ≤ (prOf d).1 := Int.ediv_le_self _ h1
    have a1 := (low_pos pd).1
    show (decide ((low (prOf d)).1 = 1 ∧ (low (prOf d)).2 = 0) || (decide (0 ≤ (low (prOf d)).1) && decide ((low (prOf d)).1 ≤ 1000000000000) && (decide (1 ≤ (low (prOf d)).2) && decide ((low (prOf d)).2 ≤ 1000000000000)))) = true
    rw [decide_eq_true a1, decide_eq_true (show (low (prOf d)).1 ≤ 1000000000000 by omega), decide_eq_true (show 1 ≤ (low (prOf d)).2 by omega), decide_eq_true (show (low (prOf d)).2 ≤ 1000000000000 by omega)]
    simp
theorem pr_shows {e : Int × Int} (h1 : Sm 200 e.1) (h2 : Sm 200 e.2) : Shows (prD e) := (tame_prD h1 h2).shows
theorem not2 : ¬ (!decide (V.int 2 = V.int 2)) = true := by decide
theorem not4 : ¬ (!decide (V.int 4 = V.int 4)) = true := by decide
section
variable {P : Program} {w : World} {K : PySem.W.Frag} {mg : Str → Option Value} {base : Heap} {tG t1 t3 tC tK tP : Tok} {aO aW aCh Ce C : Addr}
abbrev s_law_never_right : Stmt := top 127
theorem sc_law_never_right : FnScope ["_law_row", "_law_mate", "_law_told_here", "_law_part"] ["_law_row", "_law_mate"] (defScope s_law_never_right) := ⟨rfl, rfl, rfl, by decide +kernel, rfl, by decide +kernel, by decide +kernel⟩

theorem ok_nevr {f : Addr} {fd : FuncData} (F : Fun K "_law_never_right" "_law_never_right" s_law_never_right f fd) (T : TxtX K mg w tG t1 t3 tC tK tP aO aW aCh Ce) (D_certify_never : Df P w K mg base 6 "certify_never" ["pattern", "other"] (spCN aO C)) (D_more_load : Df P w K mg base 5 "more_load" ["pattern", "other"] (spML aO C)) (D_law_pat : Df P w K mg base 8 "_law_pat" ["_law_row"] (spPat C)) (D_law_never : Df P w K mg base 2 "_law_never" ["_law_row", "_law_mate"] spLNev) (D_accepts : Df P w K mg base 9 "accepts" ["claim", "certificate"] (spAcc3 K aO))
    (D_law_is_number : Df P w K mg base 1 "_law_is_number" ["_law_thing"] (spIsNumT K)) (D_law_frac : Df P w K mg base 2 "_law_frac" ["_law_thing"] (spFracT K)) (D_law_led : Df P w K mg base 1 "_law_led" ["_law_row", "_law_pair"] (spLedT K)) (D_law_sign : Df P w K mg base 1 "_law_sign" ["_law_one", "_law_two"] spSgn) : FnG P w K mg base 10 f fd ["_law_row", "_law_mate"] spNevR := by
  refine okG F sc_law_never_right (fun vs H Q E h => ?_) (fun cdv A outer s H vs Q E hg hr h => ?_)
  · obtain ⟨v, u, r, m, rfl, _⟩ := h
    rfl
  · obtain ⟨v, u, r, m, rfl, h1, h2, k⟩ := h
    refine ⟨_, (C8.pss_cut (ps_set (i := 2) sc_law_never_right.nd rfl (.inl rfl) (pe_df D_certify_never (hr.mono (by decide)) (by rfl) (pa_cons (pe_df D_law_pat (hr.mono (by decide)) (by rfl) (pa_cons (pv 0) pa_nil)) (pa_cons (pe_df D_law_pat (hr.mono (by decide)) (by rfl) (pa_cons (pv 1) pa_nil)) pa_nil))))
      (pss_cons (ps_if (pt_val (pe_df D_law_never (hr.mono (by decide)) (by rfl) (pa_cons (pv 0) (pa_cons (pv 1) pa_nil)))) (pss_one (ps_ret (pe_and (pe_cmpR op_eq (pe_callB (cr_rpK (K := K) hg hr.units) (by rfl) T.repr (by decide +kernel) (pa_cons (pv 2) pa_nil)) (pe_callB (cr_rpK (K := K) hg hr.units) (by rfl) T.repr (by decide +kernel) (pa_cons (pe_tup (pa_cons (pe_tup (pa_cons pe_str (pa_cons (pv 0) (pa_cons (pv 1) pa_nil)))) (pa_cons (pe_tup pa_nil) pa_nil))) pa_nil)) (nomark _)) (pe_one (pe_cmpR op_isB (pe_df D_accepts (hr.mono (by decide)) (by rfl) (pa_cons (pe_ix ix_tup (pv 2) pe_int (fun _ _ => rfl)) (pa_cons (pe_ix ix_tup (pv 2) pe_int (fun _ _ => rfl)) pa_nil))) pe_bl (nomark _)))))) pss_nil)
      (pss_cons (ps_if (PW.pt (pw_or (pt_not (pt_val (pe_callB call_isi (by rfl) T.isinstance (by decide +kernel) (pa_cons (pv 2) (pa_cons (pe_bltn (v := .ty "tuple") (by rfl) T.tuple_ (by decide +kernel) rfl) pa_nil))))) (pw_or (pt_cmpR op_ne (pe_callB call_len_seq (by rfl) T.len (by decide +kernel) (pa_cons (pv 2) pa_nil)) pe_int (nomark _)) (pw_or (pt_not (pt_val (pe_callB call_isi (by rfl) T.isinstance (by decide +kernel) (pa_cons (pe_ix ix_tup (pv 2) pe_int (fun _ _ => rfl)) (pa_cons (pe_bltn (v := .ty "tuple") (by rfl) T.tuple_ (by decide +kernel) rfl) pa_nil))))) (pw_or1 (pt_cmpR op_ne (pe_callB call_len_seq (by rfl) T.len (by decide +kernel) (pa_cons (pe_ix ix_tup (pv 2) pe_int (fun _ _ => rfl)) pa_nil)) pe_int (nomark _))))))) (pss_one (ps_ret pe_bl)) pss_nil)
      (pss_cons (ps_set (i := 3) sc_law_never_right.nd rfl (.inl rfl) (pe_ix ix_tup (pe_ix ix_tup (pv 2) pe_int (fun _ _ => rfl)) pe_int (fun _ _ => rfl)))
      (pss_cons (ps_if (PW.pt (pw_or (pt_not (pt_val (pe_df D_law_is_number (hr.mono (by decide)) (by rfl) (pa_cons (pv 3) pa_nil)))) (pw_or1 (pt_cmpR op_ne (pe_callB (cr_rpK (K := K) hg hr.units) (by rfl) T.repr (by decide +kernel) (pa_cons (pv 3) pa_nil)) (pe_callB (cr_rpK (K := K) hg hr.units) (by rfl) T.repr (by decide +kernel) (pa_cons (pe_df D_law_frac (hr.mono (by decide)) (by rfl) (pa_cons (pv 3) pa_nil)) pa_nil)) (nomark _))))) (pss_one (ps_ret pe_bl)) pss_nil)
      (pss_cons (ps_if (PW.pt (pw_or (pt_cmpR op_ne (pe_callB (cr_rpK (K := K) hg hr.units) (by rfl) T.repr (by decide +kernel) (pa_cons (pv 2) pa_nil)) (pe_callB (cr_rpK (K := K) hg hr.units) (by rfl) T.repr (by decide +kernel) (pa_cons (pe_tup (pa_cons (pe_tup (pa_cons pe_str (pa_cons (pv 0) (pa_cons (pv 1) (pa_cons (pv 3) pa_nil))))) (pa_cons (pe_tup pa_nil) pa_nil))) pa_nil)) (nomark _)) (pw_or1 (pt_cmpR op_isNotB (pe_df D_accepts (hr.mono (by decide)) (by rfl) (pa_cons (pe_ix ix_tup (pv 2) pe_int (fun _ _ => rfl)) (pa_cons (pe_tup pa_nil) pa_nil))) pe_bl (nomark _))))) (pss_one (ps_ret pe_bl)) pss_nil)
      (pss_cons (ps_if (pt_cmpR op_ne (pe_callB (cr_rpK (K := K) hg hr.units) (by rfl) T.repr (by decide +kernel) (pa_cons (pv 3) pa_nil)) (pe_callB (cr_rpK (K := K) hg hr.units) (by rfl) T.repr (by decide +kernel) (pa_cons (pe_df D_more_load (hr.mono (by decide)) (by rfl) (pa_cons (pe_df D_law_pat (hr.mono (by decide)) (by rfl) (pa_cons (pv 0) pa_nil)) (pa_cons (pe_df D_law_pat (hr.mono (by decide)) (by rfl) (pa_cons (pv 1) pa_nil)) pa_nil))) pa_nil)) (nomark _)) (pss_one (ps_ret pe_bl)) pss_nil)
      (pss_one (ps_ret (pe_cmpR op_gt (pe_df D_law_sign (hr.mono (by decide)) (by rfl) (pa_cons (pe_df D_law_led (hr.mono (by decide)) (by rfl) (pa_cons (pv 0) (pa_cons (pv 3) pa_nil))) (pa_cons (pe_df D_law_led (hr.mono (by decide)) (by rfl) (pa_cons (pv 1) (pa_cons (pv 3) pa_nil))) pa_nil))) pe_int (nomark _))))))))))), ?_⟩
    obtain ⟨_, _, _, _, _, ok, l1, l8⟩ := id h1
    obtain ⟨_, _, _, _, _, ok', l1', l8'⟩ := id h2
    refine ⟨fun σ' H' => ∃ z, σ' = [some v, some u, some (.ref z), none] ∧ Same H H' ∧ ((nmR r m = true ∧ NevAt H' z r m) ∨ (nmR r m = false ∧ MorAt aO H' z r m)), ?_, ?_⟩
    · refine ⟨_, rfl, v, r, rfl, h1, fun H1 x s1 nx hx => ⟨_, rfl, u, m, rfl, h2.same s1, fun H2 y s2 ny hy => ?_⟩⟩
      exact ⟨x, y, r, m, rfl, hx.same s2, hy, ok, ok', l1, l1', l8, l8', fun e H3 z s3 hz => ⟨z, rfl, (s1.trans s2).trans s3, .inl ⟨e, hz⟩⟩, fun e H3 z s3 hz => ⟨z, rfl, (s1.trans s2).trans s3, .inr ⟨e, hz⟩⟩⟩
    rintro σ1 H1 ⟨z, rfl, s1, hz⟩
    refine ⟨_, rfl, _, rfl, v, u, r, m, rfl, h1.same s1, h2.same s1, fun H2 s2 => ⟨_, rfl, ?_⟩⟩
    have s02 := s1.trans s2
    rcases hz with ⟨e, hz⟩ | ⟨e, hz⟩
    · rw [← nmR_B, e]
      refine iteT ?_
      obtain ⟨cl, em, q1, q2, hz, hem, hcl, g1, g2⟩ := hz
      have Sh := nev_shows ok l8 ok' l8'
      refine ⟨_, rfl, .ref z, nevD r m, rfl, .dp (dp_nev (s2 _ _ hz) (s2 _ _ hem) (s2 _ _ hcl) (g1.same s2) (g2.same s2)) Sh.n, Sh.s, Sh.p, Sh.l, ?_⟩
      refine ⟨_, rfl, _, rfl, (by show 3 ≤ sizeLine; decide), fun c' nc => ⟨(by show 0 ≤ sizeLine; decide), fun e' ne' => ⟨(by show 2 ≤ sizeLine; decide), fun z' nz' => ?_⟩⟩⟩
      have sc := same_upd (o := .tup [.str (Str.ofString "never"), v, u]) nc
      have se := same_upd (o := .tup []) ne'
      have sz := same_upd (o := .tup [.ref c', .ref e']) nz'
      have s23 := (sc.trans se).trans sz
      have s03 := s02.trans s23
      refine ⟨.ref z', nevD r m, rfl, .dp (dp_nev upd_same (sz _ _ upd_same) ((se.trans sz) _ _ upd_same) (h1.same s03) (h2.same s03)) Sh.n, Sh.s, Sh.p, Sh.l, ?_⟩
      generalize upd (upd (upd H2 c' (.tup [.str (Str.ofString "never"), v, u])) e' (.tup [])) z' (.tup [.ref c', .ref e']) = H3 at *
      have s13 := s2.trans s23
      generalize (nevD r m).shown = tx
      refine ⟨rfl, _, rfl, ite2 (fun _ => ?_) (fun e => absurd (decide_eq_true rfl) e)⟩
      refine ⟨_, rfl, z, _, _, _, rfl, rfl, SqT.of (s13 _ _ hz), atI_nat (j := 0) rfl, _, rfl, z, _, _, _, rfl, rfl, SqT.of (s13 _ _ hz), atI_nat (j := 1) rfl, cl, em, rfl, s13 _ _ hem, .inl ⟨q1, q2, r, m, s13 _ _ hcl, g1.same s13, g2.same s13, e⟩, fun H4 s4 => ⟨true, true, rfl, rfl, k _ (s03.trans s4)⟩⟩
    · rw [← nmR_B, e]
      refine iteF ?_
      obtain ⟨cl, em, p, q1, q2, hz, hem, hcl, g1, g2, hp⟩ := hz
      have hpT : PrT K H1 p (mlE r m) := hp.pr (.inr T.opn)
      obtain ⟨pos, lowE, bot, sm1, sm2, opos⟩ := ml_facts ok l8 ok' l8' e
      generalize hE : mlE r m = e0 at hp hpT pos lowE bot sm1 sm2 opos
      have hml : ∀ {H : Hp} {q : Addr}, SaidAt aO H q (mlE r m) → PrT K H q e0 := fun h => (hE ▸ h : SaidAt aO _ _ e0).pr (.inr T.opn)
      have Sh := mor_shows (e := e0) ok l8 ok' l8' (sm1.mono (by decide)) (sm2.mono (by decide))
      have ShP := pr_shows (e := e0) (sm1.mono (by decide)) (sm2.mono (by decide))
      refine ⟨_, rfl, _, _, _, _, true, rfl, .ty _, .base (.tup (s2 _ _ hz)), kit_ty (by decide +kernel), _, rfl, iteF ⟨_, rfl, z, _, rfl, .inr (SqT.of (s2 _ _ hz)), rfl, _, rfl, ite2 (fun e1 => absurd e1 not2) (fun _ => ?_)⟩⟩
      refine ⟨_, rfl, z, _, _, _, rfl, rfl, SqT.of (s2 _ _ hz), atI_nat (j := 0) rfl, _, _, _, _, true, rfl, .ty _, .base (.tup (s2 _ _ hcl)), kit_ty (by decide +kernel), _, rfl, iteF ⟨_, rfl, z, _, _, _, rfl, rfl, SqT.of (s2 _ _ hz), atI_nat (j := 0) rfl, cl, _, rfl, .inr (SqT.of (s2 _ _ hcl)), rfl, _, rfl, ite2 (fun e1 => absurd e1 not4) (fun _ => ?_)⟩⟩
      refine ⟨_, rfl, z, _, _, _, rfl, rfl, SqT.of (s2 _ _ hz), atI_nat (j := 0) rfl, cl, _, _, _, rfl, rfl, SqT.of (s2 _ _ hcl), atI_nat (j := 3) rfl, ?_⟩
      refine ⟨_, rfl, p, e0, rfl, sqT_up hpT s2, pos.1, bot, fun H3 s3 => ⟨_, rfl, iteF ?_⟩⟩
      have s13 := s2.trans s3
      refine ⟨_, rfl, .ref p, prD e0, rfl, pr_dq (sqT_up hpT s13), ShP.s, ShP.p, ShP.l, ?_⟩
      refine ⟨_, rfl, p, e0, rfl, sqT_up hpT s13, pos, sm1.mono (by decide), sm2.mono (by decide), fun H4 q s4 hq => ?_⟩
      rw [lowE] at hq
      refine ⟨.ref q, prD e0, rfl, pr_dq (SqT.of hq), ShP.s, ShP.p, ShP.l, ?_⟩
      generalize (prD e0).shown = tx
      refine ⟨rfl, _, rfl, ite2 (fun e => absurd e (ne_selfV _)) (fun _ => ?_)⟩
      have s14 := s13.trans s4
      have s04 := s1.trans s14
      refine ⟨_, rfl, .ref z, morD r m e0, rfl, .dp (dp_mor (s14 _ _ hz) (s14 _ _ hem) (s14 _ _ hcl) (g1.same s14) (g2.same s14) (sqT_up hpT s14)) Sh.n, Sh.s, Sh.p, Sh.l, ?_⟩
      refine ⟨_, rfl, _, rfl, _, rfl, (by show 4 ≤ sizeLine; decide), fun c' nc => ⟨(by show 0 ≤ sizeLine; decide), fun e' ne' => ⟨(by show 2 ≤ sizeLine; decide), fun z' nz' => ?_⟩⟩⟩
      have sc := same_upd (o := .tup [.str (Str.ofString "more"), v, u, .ref p]) nc
      have se := same_upd (o := .tup []) ne'
      have sz := same_upd (o := .tup [.ref c', .ref e']) nz'
      have s45 := (sc.trans se).trans sz
      have s05 := s04.trans s45
      have s15 := s14.trans s45
      refine ⟨.ref z', morD r m e0, rfl, .dp (dp_mor upd_same (sz _ _ upd_same) ((se.trans sz) _ _ upd_same) (h1.same s05) (h2.same s05) (sqT_up hpT s15)) Sh.n, Sh.s, Sh.p, Sh.l, ?_⟩
      generalize upd (upd (upd H4 c' (.tup [.str (Str.ofString "more"), v, u, .ref p])) e' (.tup [])) z' (.tup [.ref c', .ref e']) = H5 at *
      generalize (morD r m e0).shown = tx
      refine ⟨rfl, _, rfl, ite2 (fun e => absurd e (ne_selfV _)) (fun _ => ?_)⟩
      refine ⟨_, rfl, z, _, _, _, rfl, rfl, SqT.of (s15 _ _ hz), atI_nat (j := 0) rfl, (by show 0 ≤ sizeLine; decide), fun em2 nem2 => ?_⟩
      have s56 := same_upd (o := .tup []) nem2
      have s16 := s15.trans s56
      refine ⟨cl, em2, rfl, upd_same, .inr (.inl ⟨p, q1, q2, r, m, e0, s16 _ _ hcl, g1.same s16, g2.same s16, sqT_up hpT s16, num_prD pos bot, sm1.mono (by decide), sm2.mono (by decide), opos⟩), fun H6 s6 => ⟨true, true, rfl, rfl, _, rfl, ite2 (fun e => absurd e (by decide)) (fun _ => ?_)⟩⟩
      have s17 := s16.trans s6
      have s07 := s1.trans s17
      refine ⟨_, rfl, .ref p, prD e0, rfl, pr_dq (sqT_up hpT s17), ShP.s, ShP.p, ShP.l, ?_⟩
      refine ⟨_, rfl, v, r, rfl, h1.same s07, fun H8 x s8 nx hx => ⟨_, rfl, u, m, rfl, h2.same (s07.trans s8), fun H9 y s9 ny hy => ?_⟩⟩
      refine ⟨x, y, r, m, rfl, hx.same s9, hy, ok, ok', l8, l8', fun e' => ?_, fun _ Ha p' sa hp' => ?_⟩
      · rw [e] at e'
        cases e'
      refine ⟨.ref p', prD e0, rfl, pr_dq (hml hp'), ShP.s, ShP.p, ShP.l, ?_⟩
      generalize (prD e0).shown = tx
      refine ⟨rfl, _, rfl, ite2 (fun e => absurd e (ne_selfV _)) (fun _ => ?_)⟩
      have s1a := s17.trans ((s8.trans s9).trans sa)
      have s0a := s1.trans s1a
      refine ⟨_, rfl, _, rfl, v, p, r, e0, rfl, h1.same s0a, sqT_up hpT s1a, sm1.mono (by decide), sm2.mono (by decide), fun Hb a sb na ha => ?_⟩
      refine ⟨_, rfl, _, rfl, u, p, m, e0, rfl, h2.same (s0a.trans sb), sqT_up hpT (s1a.trans sb), sm1.mono (by decide), sm2.mono (by decide), fun Hc b sc' nb hb => ?_⟩
      have z1 := actR_sm ok l8 sm1 sm2
      have z2 := actR_sm ok' l8' sm1 sm2
      refine ⟨a, b, _, _, rfl, sc' _ _ ha, hb, z1.1.mono (by decide), z1.2.mono (by decide), z2.1.mono (by decide), z2.2.mono (by decide), _, _, rfl, rfl, ?_⟩
      rw [mat_app, mat_app] at opos
      have := k _ ((s0a.trans sb).trans sc')
      rw [← decide_eq_true opos] at this
      exact this
theorem LtAt.dp {K : PySem.W.Frag} {aO : Addr} {H : Hp} {v : V} {r : List Pc} (h : LtAt aO H v r) (o : PrT K H aO (1, 0)) : Dp K H v (limD r) := by
  rcases h with ⟨c0, rfl⟩ | ⟨cn, t, rfl, h⟩
  · rw [show limD r = .tuple [.int 1, .int 0] from if_pos c0]
    exact dp_pr o
  · rw [show limD r = .tuple [.int (eqL r).1, .int (eqL r).2.1, .int (eqL r).2.2] from if_neg cn]
    exact .tup (SqT.of h) (.cons (.int _) (.cons (.int _) (.cons (.int _) .nil)))
abbrev s_law_limit_right : Stmt := top 128
theorem sc_law_limit_right : FnScope ["_law_row", "_law_start", "_law_told_here", "_law_due"] ["_law_row", "_law_start"] (defScope s_law_limit_right) := ⟨rfl, rfl, rfl, by decide +kernel, rfl, by decide +kernel, by decide +kernel⟩

theorem ok_limr {f : Addr} {fd : FuncData} (F : Fun K "_law_limit_right" "_law_limit_right" s_law_limit_right f fd) (T : TxtX K mg w tG t1 t3 tC tK tP aO aW aCh Ce) (D_certify_limit : Df P w K mg base 8 "certify_limit" ["pattern", "load"] (spCL K aO C)) (D_law_pat : Df P w K mg base 8 "_law_pat" ["_law_row"] (spPat C)) (D_accepts : Df P w K mg base 9 "accepts" ["claim", "certificate"] (spAcc3 K aO)) (D_law_frac : Df P w K mg base 2 "_law_frac" ["_law_thing"] spFrac) (D_law_limit : Df P w K mg base 2 "_law_limit" ["_law_row"] spLLim) : FnG P w K mg base 10 f fd ["_law_row", "_law_start"] spLimR := by
  refine okG F sc_law_limit_right (fun vs H Q E h => ?_) (fun cdv A outer s H vs Q E hg hr h => ?_)
  · obtain ⟨v, u, r, d, rfl, _⟩ := h
    rfl
  · obtain ⟨v, u, r, d, rfl, h1, hd, hres, k⟩ := h
    refine ⟨_, (C8.pss_cut (ps_set (i := 2) sc_law_limit_right.nd rfl (.inl rfl) (pe_df D_certify_limit (hr.mono (by decide)) (by rfl) (pa_cons (pe_df D_law_pat (hr.mono (by decide)) (by rfl) (pa_cons (pv 0) pa_nil)) (pa_cons (pv 1) pa_nil))))
      (C8.pss_cut (ps_set (i := 3) sc_law_limit_right.nd rfl (.inl rfl) (pe_tup (pa_cons (pe_tup (pa_cons pe_str (pa_cons (pv 0) (pa_cons (pe_df D_law_frac (hr.mono (by decide)) (by rfl) (pa_cons (pv 1) pa_nil)) (pa_cons (pe_df D_law_limit (hr.mono (by decide)) (by rfl) (pa_cons (pv 0) pa_nil)) pa_nil))))) (pa_cons (pe_tup pa_nil) pa_nil))))
      (pss_one (ps_ret (pe_and (pe_cmpR op_eq (pe_callB (cr_rpK (K := K) hg hr.units) (by rfl) T.repr (by decide +kernel) (pa_cons (pv 2) pa_nil)) (pe_callB (cr_rpK (K := K) hg hr.units) (by rfl) T.repr (by decide +kernel) (pa_cons (pv 3) pa_nil)) (nomark _)) (pe_one (pe_cmpR op_isB (pe_df D_accepts (hr.mono (by decide)) (by rfl) (pa_cons (pe_ix ix_tup (pv 2) pe_int (fun _ _ => rfl)) (pa_cons (pe_ix ix_tup (pv 2) pe_int (fun _ _ => rfl)) pa_nil))) pe_bl (nomark _)))))))), ?_⟩
    obtain ⟨_, _, _, _, _, ok, l1, l8⟩ := id h1
    obtain ⟨hnum, sd1, sd2⟩ := res_num hres
    have pd := num_pos hnum
    have lsm := low_sm pd sd1 sd2
    refine ⟨fun σ' H' => ∃ z, σ' = [some v, some u, some (.ref z), none] ∧ Same H H' ∧ LimC aO H' z r (prOf d), ?_, ?_⟩
    · refine ⟨_, rfl, v, r, rfl, h1, fun H1 x s1 nx hx => ⟨_, rfl, x, u, r, d, rfl, hx, ok, l1, l8, hd.mono s1, hres, fun H2 z s2 hz => ⟨z, rfl, s1.trans s2, hz⟩⟩⟩
    rintro σ1 H1 ⟨z, rfl, s1, cl, em, lp, q, tv, hz, hem, hcl, g, hlp, hlt⟩
    have Sh := lim_shows (e := low (prOf d)) ok l8 (lsm.1.mono (by decide)) (lsm.2.mono (by decide)) (lim_tame ok l8)
    have ro : resG (prD (low (prOf d))) = true := res_low hres
    generalize hE : low (prOf d) = e0 at hlp Sh ro lsm
    refine ⟨fun σ' H' => ∃ z', σ' = [some v, some u, some (.ref z), some (.ref z')] ∧ Same H1 H' ∧ Dp K H' (.ref z') (limC r e0), ?_, ?_⟩
    · refine ⟨_, rfl, _, rfl, u, d, rfl, hd.mono s1, hnum, ⟨sd1.mono (by decide), sd2.mono (by decide)⟩, fun H2 p s2 np hp => ?_⟩
      rw [hE] at hp
      refine ⟨_, rfl, v, r, rfl, h1.same (s1.trans s2), fun H3 lv s3 hlv => ⟨(by show 4 ≤ sizeLine; decide), fun c' nc => ⟨(by show 0 ≤ sizeLine; decide), fun e' ne' => ⟨(by show 2 ≤ sizeLine; decide), fun z' nz' => ?_⟩⟩⟩⟩
      have sc := same_upd (o := .tup [.str (Str.ofString "limit"), v, .ref p, lv]) nc
      have se := same_upd (o := .tup []) ne'
      have sz := same_upd (o := .tup [.ref c', .ref e']) nz'
      have s34 := (sc.trans se).trans sz
      have s14 := (s2.trans s3).trans s34
      refine ⟨z', rfl, s14, dp_lim upd_same (sz _ _ upd_same) ((se.trans sz) _ _ upd_same) (h1.same (s1.trans s14)) (SqT.of ((s3.trans s34) _ _ hp)) ?_⟩
      exact (hlv.dr.mono s34).dp (lim_nodict r)
    rintro σ2 H2 ⟨z', rfl, s2, hdz⟩
    refine ⟨_, rfl, .ref z, limC r e0, rfl, .dp (dp_lim (s2 _ _ hz) (s2 _ _ hem) (s2 _ _ hcl) (g.same s2) (SqT.of (s2 _ _ hlp)) ((hlt.same s2).dp (.inr T.opn))) Sh.n, Sh.s, Sh.p, Sh.l, ?_⟩
    refine ⟨_, rfl, .ref z', limC r e0, rfl, .dp hdz Sh.n, Sh.s, Sh.p, Sh.l, ?_⟩
    generalize (limC r e0).shown = tx
    refine ⟨rfl, _, rfl, ite2 (fun _ => ?_) (fun e => absurd (decide_eq_true rfl) e)⟩
    exact ⟨_, rfl, z, _, _, _, rfl, rfl, SqT.of (s2 _ _ hz), atI_nat (j := 0) rfl, _, rfl, z, _, _, _, rfl, rfl, SqT.of (s2 _ _ hz), atI_nat (j := 1) rfl, cl, em, rfl, s2 _ _ hem, .inr (.inr ⟨lp, q, tv, r, e0, s2 _ _ hcl, g.same s2, s2 _ _ hlp, ro, hlt.same s2⟩), fun H4 s4 => ⟨true, true, rfl, rfl, k _ ((s1.trans s2).trans s4)⟩⟩
end
end RL

set_option maxHeartbeats 2000000
/-! a def called on the exception, outside all repr (it may call repr itself) -/
namespace RL
open PySem L2 PySem.Spec PyProof.Rows
structure FnF (P : Program) (w : World) (K : PySem.W.Frag) (mg : Str → Option Value) (base : Heap) (k : Nat) (f : Addr) (fd : FuncData) (ps : List Str) (sp : Addr × Obj → Sp) : Prop where
  len : ∀ p vs H Q E, sp p vs H Q E → vs.length = ps.length
  run : ∀ (A : Around) (outer : List Env) (s : Shared) (H : Hp) (args : Args) (us : List Value) (vs : List V) (Q : VK) (p : Addr × Obj), L2H.RoomH k A → (A.guards = some [] ∧ L2H.Hot1 A p) → L2H.PinOk outer H s p → Env0 P w K mg base A outer s H → BindsTo s fd args (ps.zip us) → Vals vs us → sp p vs H Q E0 →
    codeAny (model P w) A (.call (.ref f) args) (CR CX0 outer P w H s Q E0) s
section
variable {P : Program} {w : World} {K : PySem.W.Frag} {mg : Str → Option Value} {base : Heap}
theorem okF {x qual : Str} {st : Stmt} {f : Addr} {fd : FuncData} {N ps : List Str} {k : Nat} {sp : Addr × Obj → Sp} (F : Fun K x qual st f fd) (S : FnScope N ps (defScope st)) (len : ∀ p vs H Q E, sp p vs H Q E → vs.length = ps.length)
    (bd : ∀ (cdv : Value) (A : Around) (outer : List Env) (s : Shared) (H : Hp) (vs : List V) (Q : VK) (p : Addr × Obj), (A.guards = some [] ∧ L2H.Hot1 A p) → L2H.RoomH k (A.deeper (envOfC qual (defScope st) s.heap.objs.size f cdv)) → sp p vs H Q E0 →
      ∃ t, PSs (L2H.cxH CX0 P w K mg base N qual (defScope st) f cdv A outer s H E0 p) (defBody st) t ∧ t { nx := fun _ H' => Q .non H', rt := Q } (L2.start N vs) H) : FnF P w K mg base (k + 1) f fd ps sp := by
  obtain ⟨oc, od, kV, doc, pm, an, cdv, ct, osl, rfl, lk, hcd⟩ := F.ex
  refine ⟨len, fun A outer s H args us vs Q p hr hot hpin e0 hb r hsp => ?_⟩
  have KX : K.In s.heap := e0.mod.kin.keeps fun b o e => (e0.bs b o e).1
  have lim := e0.mod.nolimit.keeps fun b o e => (e0.bs b o e).1
  refine codeAny_call_function hr.depth (KX _ _ lk) rfl S.co S.gen rfl (PySem.W.codeRec_of KX hcd) (hb _ _ _ _ (wpAny_newFunctionEnv_cells S.kind (fun ⟨n, v⟩ hy => ?_) fun env he s1 x => ?_))
  · exact (S.par n (List.of_mem_zip hy).1).imp id fun q => ⟨q, PySem.W.cellsFrom_some _ _ _ (.inl q)⟩
  · subst he
    obtain ⟨t, ht, hq⟩ := bd cdv A outer s H vs Q p hot (hr.deeper _) hsp
    have I : Inv (L2H.cxH CX0 P w K mg base N qual (defScope st) f cdv A outer s H E0 p) [] (L2.start N vs) H s1 := L2H.inv_startH S hpin e0 (len _ _ _ _ _ hsp) r x
    refine ⟨lim.keeps x.toInCall.keep, codeAny_func (wpAny_mono (ht.run [] s1 _ H _ I hq) (fun fl s' hs => ?_) fun _ _ z => z)⟩
    cases fl with
    | ret u =>
      obtain ⟨v, σ', H', J, rv, q⟩ := hs
      exact ⟨v, H', J.os, J.bare, J.base, J.hok, rv, q⟩
    | next =>
      obtain ⟨σ', H', J, q⟩ := hs
      exact ⟨V.non, H', J.os, J.bare, J.base, J.hok, rfl, q⟩
    | brk => exact hs.elim fun _ z => z.elim fun _ y => False.elim y.2
    | cont => exact hs.elim fun _ z => z.elim fun _ y => False.elim y.2
end
structure DfF (P : Program) (w : World) (K : PySem.W.Frag) (mg : Str → Option Value) (base : Heap) (k : Nat) (x : Str) (ps : List Str) (sp : Addr × Obj → Sp) : Prop where
  ex : ∃ (f : Addr) (fd : FuncData), FnF P w K mg base k f fd ps sp ∧ mg x = some (.ref f) ∧ PySem.W.keepIn K (.ref f) = true ∧ Binds K fd ps []
section
variable {X : Cx} {k : Nat} {ps : List Str} {sp : Addr × Obj → Sp} {x : Str} {q pos : Pos} {e : Expr} {es : List Expr} {t : TA} {p : Addr × Obj}
theorem pe_dfF (D : DfF X.prog X.w X.K X.mg X.base k x ps sp) (hr : L2H.RoomH k X.A) (hot : (X.A.guards = some [] ∧ L2H.Hot1 X.A p)) (hp : p ∈ X.pn) (hg : Gl X x)
    (ha : PA X (e :: es) t) (hdb : (x == ("__debug__" : Str)) = false := by decide) (he : starEach (e :: es) X.env = (false, eval e X.env) :: starEach es X.env := by rfl) (hpl : (backTo pos (starEach es X.env)).any (·.1) = false := by rfl) :
    PE X (.Call (.Name x q) (e :: es) [] pos) (fun σ H Q => t σ H fun vs H1 => sp p vs H1 Q E0) := by
  obtain ⟨f, fd, F, hm, hk, hb⟩ := D.ex
  refine ⟨fun pins s σ H Q I h => wpAny_Call_Name_kw (ld_glob I hg hm (PySem.W.callWith_K (h₀ := X.base) I.ok.mod.kin hk (thn (ha.run pos pins s σ H _ I h) fun us s1 ⟨vs, H1, I1, r, q0⟩ => ⟨I1.kIn, ?_⟩) he hpl) hdb)⟩
  have hl : us.length = ps.length := by
    rw [← r.length]
    exact F.len _ _ _ _ _ q0
  have hbb := hb s1 us I1.kIn (by rw [List.append_nil]; exact hl)
  rw [List.append_nil] at hbb
  have P1 := I1.pin p (List.mem_append_left _ hp)
  have hpin : L2H.PinOk X.stack H1 s1 p := ⟨P1.1, P1.2.1, fun hm => (List.mem_cons.mp (I1.stkSub p.1 hm)).elim P1.2.2.1 P1.2.2.2.1, P1.2.2.2.2⟩
  refine wpAny_call (codeAny_mono (F.run X.A X.stack s1 H1 ⟨us, []⟩ us vs Q p hr hot hpin I1.env0 hbb r q0) fun z s' hq => ?_)
  cases z with
  | error e => exact hq.elim
  | ok fl =>
    cases fl with
    | ret u => exact I1.after hq
    | next => exact hq.elim
    | brk => exact hq.elim
    | cont => exact hq.elim
end
end RL

/-! xs.count(True) of a list of bools -/
namespace RL
open PySem L2 PySem.Spec PyProof.Rows PySem.SeqAt
def rCntB (K : PySem.W.Frag) : V → List V → Hp → VK → Prop := fun x xs H Q => ∃ (p : Addr) (bs : List Bool) (k : Bool), x = .ref p ∧ xs = [.bl k] ∧ SqL K H p (bs.map V.bl) ∧ Q (.int (bs.count k : Nat)) H
section
variable {X : Cx}
theorem mem_bl {bs : List Bool} {its : List Value} (r : Vals (bs.map V.bl) its) : ∀ y ∈ its, ∃ b, y = Value.bool b := by
  induction bs generalizing its with
  | nil =>
    cases r
    intro y h
    cases h
  | cons b bs ih =>
    cases r with
    | cons r1 r2 =>
      intro y h
      rcases List.mem_cons.mp h with rfl | h
      · exact ⟨b, r1⟩
      · exact ih r2 y h
theorem count_bl {k : Bool} {bs : List Bool} {its : List Value} (r : Vals (bs.map V.bl) its) : its.countP (isBoolOf k) = bs.count k := by
  induction bs generalizing its with
  | nil =>
    cases r
    rfl
  | cons b bs ih =>
    cases r with
    | @cons _ v _ _ r1 r2 =>
      have e : v = Value.bool b := r1
      subst e
      rw [List.countP_cons, List.count_cons, ih r2]
      rfl
theorem mt_lcountB : MtR X "list.count" (rCntB X.K) := by
  intro pins s σ H x xs v us Q I rx rxs h
  obtain ⟨p, bs, k, rfl, rfl, hs, q⟩ := h
  cases rx
  obtain ⟨u, rfl, ru⟩ := rxs.one
  obtain rfl : u = Value.bool k := ru
  obtain ⟨its, rv, ⟨⟨cls, dd, data, sl⟩, n, ho, hc, hdn, hd⟩, hlen⟩ := I.list hs
  simp only at hc hd
  subst hc hd
  refine call_meets PySem.F.slot_list_count ⟨_, ho, rfl⟩ PySem.F.entry_list_count (PySem.F.args_list_count_2 _ _)
    (SeqAt.list_countAt p its.toArray n dd sl (.bool k) (isBoolOf k)) ⟨ho, fun y hy => ?_, ?_⟩
  · obtain ⟨b, rfl⟩ := mem_bl rv y (by simpa using hy)
    exact EqAt.bool_bool b k
  have ec : its.toArray.toList.countP (isBoolOf k) = bs.count k := count_bl rv
  refine ⟨.int (bs.count k : Nat), H, I.tok _, ⟨s.toks, ?_⟩, q⟩
  show Value.int ((its.toArray.toList.countP (isBoolOf k) : Nat) : Int) s.toks = Value.int ((bs.count k : Nat) : Int) s.toks
  rw [ec]
end
end RL
namespace RL
open PySem L2 PySem.Spec PyProof.Rows
theorem mt_lcountBK {X : Cx} {K : PySem.W.Frag} (hK : X.K = K := by rfl) : MtR X "list.count" (rCntB K) := by
  subst hK
  exact mt_lcountB
theorem mt_indexDK {X : Cx} {K : PySem.W.Frag} (hu : X.A.units + 65 < cLine) (hK : X.K = K := by rfl) : MtR X "list.index" (rIndexD K) := by
  subst hK
  exact mt_indexD hu
end RL

set_option maxHeartbeats 2000000
namespace RL
open PySem L2 PySem.Spec PyProof.Rows
structure TxF (mg : Str → Option Value) (c : Nat → Addr) : Prop where
  m0 : mg "NotAPattern" = some (.ref (c 0))
  m1 : mg "NotARun" = some (.ref (c 1))
  m2 : mg "InvalidResistance" = some (.ref (c 2))
  m3 : mg "InvalidCount" = some (.ref (c 3))
  m4 : mg "InvalidText" = some (.ref (c 4))
  m5 : mg "InvalidName" = some (.ref (c 5))
  m6 : mg "InvalidClaim" = some (.ref (c 6))
  m7 : mg "InvalidIndex" = some (.ref (c 7))
  m8 : mg "InvalidDeeds" = some (.ref (c 8))
  m9 : mg "UnknownName" = some (.ref (c 9))
  m10 : mg "InUse" = some (.ref (c 10))
  m11 : mg "TooMany" = some (.ref (c 11))
  m12 : mg "Broken" = some (.ref (c 12))
  m13 : mg "NoLimit" = some (.ref (c 13))
  m14 : mg "NothingToUndo" = some (.ref (c 14))
  m15 : mg "WrongValue" = some (.ref (c 15))
  m16 : mg "WrongName" = some (.ref (c 16))
  m17 : mg "NoAnswer" = some (.ref (c 17))
def IsRowF (K : PySem.W.Frag) (c : Nat → Addr) (C : Addr) (b : Nat → Bool) : Prop := ∀ j, j < 18 → PySem.W.kitOne K (.ref C) (.ref (c j)) = some (b j)
def fnF (b : Nat → Bool) (k n : Nat) : List V := (List.range n).map fun j => V.bl (b (k + j))
def upF (j : Nat) : Nat := if j < 9 then 0 else if j < 11 then 1 else 2
def tbF (j i : Nat) : Bool := (i == j) || (i == 15 + upF j)
def fldF (j : Nat) : Str := if j < 8 ∨ j = 9 then "given" else if j = 11 then "most" else "index"
def wordsF : List Str := ["NotAPattern", "NotARun", "InvalidResistance", "InvalidCount", "InvalidText", "InvalidName", "InvalidClaim", "InvalidIndex", "InvalidDeeds", "UnknownName", "InUse", "TooMany", "Broken", "NoLimit", "NothingToUndo"]
def wordF (j : Nat) : Str := wordsF.getD j ""
structure EF (K : PySem.W.Frag) (c : Nat → Addr) (C : Addr) (j : Nat) : Prop where
  xc : XC K C
  row : IsRowF K c C (tbF j)
  any : PySem.W.exmAny K (.ref C) [.ref (c 15), .ref (c 16), .ref (c 17)] = some true
  lt : j < 13
  no : PySem.W.findIn K (.ref C) (fldF j) = some none
def spErr (K : PySem.W.Frag) (c : Nat → Addr) : Addr × Obj → Sp := fun p vs H Q _ => ∃ (C : Addr) (j : Nat) (dx : Addr) (v : V) (e : PyData), vs = [.ref p.1] ∧ EF K c C j ∧ Px p C H ∧ p.2.dict = some dx ∧ H dx = some (.xd [(fldF j, v)]) ∧
  Dq K H v e ∧ e.showable = true ∧ e.depth ≤ 40 ∧ e.shown.length ≤ sizeLine ∧ ∀ H' t, Same H H' → H' t = some (.tup [.str (wordF j), .str e.shown]) → Q (.ref t) H'
theorem split_words : Txt.split (("NotAPattern NotARun InvalidResistance InvalidCount InvalidText InvalidName InvalidClaim InvalidIndex" : Str) ++ (" InvalidDeeds UnknownName InUse TooMany Broken NoLimit NothingToUndo" : Str)) " " = wordsF := by decide +kernel
theorem wordF_at {j : Nat} (h : j < 13) : (wordsF.map V.str)[j]? = some (.str (wordF j)) := by
  have hl : j < wordsF.length := Nat.lt_of_lt_of_le h (by decide)
  rw [List.getElem?_map, List.getElem?_eq_getElem hl]
  unfold wordF
  rw [List.getD_eq_getElem?_getD, List.getElem?_eq_getElem hl]
  rfl
def rowF (j k n : Nat) : List Bool := (List.range n).map fun i => tbF j (k + i)
theorem fnF_bl {j k n : Nat} : fnF (tbF j) k n = (rowF j k n).map V.bl := by
  unfold fnF rowF
  rw [List.map_map]
  rfl
theorem rowF_count : ∀ j, j < 13 → (rowF j 0 15).count true = 1 := by decide +kernel
theorem rowF_first : ∀ j, j < 13 → (rowF j 0 15)[j]? = some true ∧ ∀ m, m < j → (rowF j 0 15)[m]? = some false := by decide +kernel
theorem rowF_base : ∀ j, j < 13 → rowF j 15 3 = [decide ((j : Int) < 9), decide ((8 : Int) < j ∧ (j : Int) < 11), decide ((j : Int) > 10)] := by decide +kernel
theorem dp_bls {K : PySem.W.Frag} {H : Hp} : ∀ bs : List Bool, DpAll K H (bs.map V.bl) (bs.map PyData.bool)
  | [] => .nil
  | b :: bs => .cons (.bl b) (dp_bls bs)
theorem rowF_sh : ∀ j, j < 13 → SeqAt.shaped (.list ((rowF j 0 15).map PyData.bool)) = true ∧ SeqAt.shaped (.list ((rowF j 15 3).map PyData.bool)) = true := by decide +kernel
theorem pnF {CX : CXT} {P : Program} {w : World} {K : PySem.W.Frag} {mg : Str → Option Value} {base : Heap} {N : List Str} {qual : Str} {scope : Scope} {f : Addr} {cd : Value} {A : Around} {outer : List Env} {s : Shared} {H : Hp} {E : XK} {p : Addr × Obj} :
    p ∈ (L2H.cxH CX P w K mg base N qual scope f cd A outer s H E p).pn := List.mem_cons_self
section
variable {P : Program} {w : World} {K : PySem.W.Frag} {mg : Str → Option Value} {base : Heap} {c : Nat → Addr}
abbrev s_law_error : Stmt := top 124
theorem sc_law_error : FnScope ["_law_e", "_law_words", "_law_sorts", "_law_bases", "_law_at"] ["_law_e"] (defScope s_law_error) := ⟨rfl, rfl, rfl, by decide +kernel, rfl, by decide +kernel, by decide +kernel⟩

theorem ok_errF {f : Addr} {fd : FuncData} (F : Fun K "_law_error" "_law_error" s_law_error f fd) (T : Txt K mg) (TE : TxF mg c) (Z : XK0 K) : FnF P w K mg base 2 f fd ["_law_e"] (spErr K c) := by
  refine okF F sc_law_error (fun p vs H Q E h => ?_) (fun cdv A outer s H vs Q p hot hr h => ?_)
  · obtain ⟨C, j, dx, v, e, rfl, _⟩ := h
    rfl
  · obtain ⟨C, j, dx, v, e, rfl, ec, px, hdx, hd, hq, q1, q2, q3, k⟩ := h
    obtain ⟨hgd, hot⟩ := hot
    have hgS : (A.deeper (envOfC "_law_error" (defScope s_law_error) s.heap.objs.size f cdv)).guards = some [] := hgd
    have huS : (A.deeper (envOfC "_law_error" (defScope s_law_error) s.heap.objs.size f cdv)).units + 64 < cLine := by
      have := hr.un
      omega
    have hu5 : (A.deeper (envOfC "_law_error" (defScope s_law_error) s.heap.objs.size f cdv)).units + 65 < cLine := by
      have := hr.un
      omega
    refine ⟨_, (C8.pss_cut (ps_set (i := 1) sc_law_error.nd rfl (.inl rfl) pe_str)
      (C8.pss_cut (ps_set (i := 1) sc_law_error.nd rfl (.inl rfl) (pe_split (pe_op op_add_str (pv 1) pe_str) pe_str))
      (C8.pss_cut (ps_set (i := 2) sc_law_error.nd rfl (.inl rfl) (pe_lst (pa_cons (pe_callB (call_isP Z pnF) (by rfl) T.isinstance (by decide +kernel) (pa_cons (pv 0) (pa_cons (pe_glob (v := .ref (c 0)) rfl TE.m0 rfl) pa_nil))) (pa_cons (pe_callB (call_isP Z pnF) (by rfl) T.isinstance (by decide +kernel) (pa_cons (pv 0) (pa_cons (pe_glob (v := .ref (c 1)) rfl TE.m1 rfl) pa_nil))) (pa_cons (pe_callB (call_isP Z pnF) (by rfl) T.isinstance (by decide +kernel) (pa_cons (pv 0) (pa_cons (pe_glob (v := .ref (c 2)) rfl TE.m2 rfl) pa_nil))) pa_nil)))))
      (C8.pss_cut (ps_set (i := 2) sc_law_error.nd rfl (.inl rfl) (pe_op op_cat (pv 2) (pe_lst (pa_cons (pe_callB (call_isP Z pnF) (by rfl) T.isinstance (by decide +kernel) (pa_cons (pv 0) (pa_cons (pe_glob (v := .ref (c 3)) rfl TE.m3 rfl) pa_nil))) (pa_cons (pe_callB (call_isP Z pnF) (by rfl) T.isinstance (by decide +kernel) (pa_cons (pv 0) (pa_cons (pe_glob (v := .ref (c 4)) rfl TE.m4 rfl) pa_nil))) (pa_cons (pe_callB (call_isP Z pnF) (by rfl) T.isinstance (by decide +kernel) (pa_cons (pv 0) (pa_cons (pe_glob (v := .ref (c 5)) rfl TE.m5 rfl) pa_nil))) pa_nil))))))
      (C8.pss_cut (ps_set (i := 2) sc_law_error.nd rfl (.inl rfl) (pe_op op_cat (pv 2) (pe_lst (pa_cons (pe_callB (call_isP Z pnF) (by rfl) T.isinstance (by decide +kernel) (pa_cons (pv 0) (pa_cons (pe_glob (v := .ref (c 6)) rfl TE.m6 rfl) pa_nil))) (pa_cons (pe_callB (call_isP Z pnF) (by rfl) T.isinstance (by decide +kernel) (pa_cons (pv 0) (pa_cons (pe_glob (v := .ref (c 7)) rfl TE.m7 rfl) pa_nil))) (pa_cons (pe_callB (call_isP Z pnF) (by rfl) T.isinstance (by decide +kernel) (pa_cons (pv 0) (pa_cons (pe_glob (v := .ref (c 8)) rfl TE.m8 rfl) pa_nil))) pa_nil))))))
      (C8.pss_cut (ps_set (i := 2) sc_law_error.nd rfl (.inl rfl) (pe_op op_cat (pv 2) (pe_lst (pa_cons (pe_callB (call_isP Z pnF) (by rfl) T.isinstance (by decide +kernel) (pa_cons (pv 0) (pa_cons (pe_glob (v := .ref (c 9)) rfl TE.m9 rfl) pa_nil))) (pa_cons (pe_callB (call_isP Z pnF) (by rfl) T.isinstance (by decide +kernel) (pa_cons (pv 0) (pa_cons (pe_glob (v := .ref (c 10)) rfl TE.m10 rfl) pa_nil))) (pa_cons (pe_callB (call_isP Z pnF) (by rfl) T.isinstance (by decide +kernel) (pa_cons (pv 0) (pa_cons (pe_glob (v := .ref (c 11)) rfl TE.m11 rfl) pa_nil))) pa_nil))))))
      (C8.pss_cut (ps_set (i := 2) sc_law_error.nd rfl (.inl rfl) (pe_op op_cat (pv 2) (pe_lst (pa_cons (pe_callB (call_isP Z pnF) (by rfl) T.isinstance (by decide +kernel) (pa_cons (pv 0) (pa_cons (pe_glob (v := .ref (c 12)) rfl TE.m12 rfl) pa_nil))) (pa_cons (pe_callB (call_isP Z pnF) (by rfl) T.isinstance (by decide +kernel) (pa_cons (pv 0) (pa_cons (pe_glob (v := .ref (c 13)) rfl TE.m13 rfl) pa_nil))) (pa_cons (pe_callB (call_isP Z pnF) (by rfl) T.isinstance (by decide +kernel) (pa_cons (pv 0) (pa_cons (pe_glob (v := .ref (c 14)) rfl TE.m14 rfl) pa_nil))) pa_nil))))))
      (C8.pss_cut (ps_set (i := 3) sc_law_error.nd rfl (.inl rfl) (pe_lst (pa_cons (pe_callB (call_isP Z pnF) (by rfl) T.isinstance (by decide +kernel) (pa_cons (pv 0) (pa_cons (pe_glob (v := .ref (c 15)) rfl TE.m15 rfl) pa_nil))) (pa_cons (pe_callB (call_isP Z pnF) (by rfl) T.isinstance (by decide +kernel) (pa_cons (pv 0) (pa_cons (pe_glob (v := .ref (c 16)) rfl TE.m16 rfl) pa_nil))) (pa_cons (pe_callB (call_isP Z pnF) (by rfl) T.isinstance (by decide +kernel) (pa_cons (pv 0) (pa_cons (pe_glob (v := .ref (c 17)) rfl TE.m17 rfl) pa_nil))) pa_nil)))))
      (C8.pss_cut (ps_set (i := 4) sc_law_error.nd rfl (.inl rfl) (pe_ifExp (pt_cmpR op_eq (pe_bm PySem.F.plainAttrs_list PySem.F.slot_list_count PySem.F.type_list_count (mt_lcountBK (K := K)) (pv 2) (pa_cons pe_bl pa_nil)) pe_int (nomark _)) (pe_bm PySem.F.plainAttrs_list PySem.F.slot_list_index PySem.F.type_list_index (mt_indexDK (K := K) hu5) (pv 2) (pa_cons pe_bl pa_nil)) (pe_un un_neg pe_int)))
      (pss_cons (ps_if (PW.pt (pw_or (pt_cmpR op_lt (pv 4) pe_int (nomark _)) (pw_or1 (pt_cmpR (op_neD huS) (pv 3) (pe_lst (pa_cons (pe_cmpR op_lt (pv 4) pe_int (nomark _)) (pa_cons (pe_chain op_lt op_lt pe_int (pv 4) pe_int) (pa_cons (pe_cmpR op_gt (pv 4) pe_int (nomark _)) pa_nil)))) (nomark _))))) (pss_one (ps_ret (pe_tup (pa_cons pe_str (pa_cons (pe_callB (cr_rpK (K := K) hgS huS) (by rfl) T.repr (by decide +kernel) (pa_cons (pv 2) pa_nil)) pa_nil))))) pss_nil)
      (pss_cons (ps_if (PW.pt (pw_or (pt_cmpR op_lt (pv 4) pe_int (nomark _)) (pw_or1 (pt_cmpR op_eq (pv 4) pe_int (nomark _))))) (pss_one (ps_ret (pe_tup (pa_cons (pe_ix (r := rIxL K) ix_list (pv 1) (pv 4) (fun _ _ => rfl)) (pa_cons (pe_callB (cr_rpK (K := K) hgS huS) (by rfl) T.repr (by decide +kernel) (pa_cons (pe_pfdK (K := K) pnF (pv 0)) pa_nil)) pa_nil))))) pss_nil)
      (pss_cons (ps_if (pt_cmpR (op_inD hu5) (pv 4) (pe_lst (pa_cons pe_int (pa_cons pe_int (pa_cons pe_int pa_nil)))) (by rfl)) (pss_one (ps_ret (pe_tup (pa_cons (pe_ix (r := rIxL K) ix_list (pv 1) (pv 4) (fun _ _ => rfl)) (pa_cons (pe_callB (cr_rpK (K := K) hgS huS) (by rfl) T.repr (by decide +kernel) (pa_cons (pe_pfdK (K := K) pnF (pv 0)) pa_nil)) pa_nil))))) pss_nil)
      (pss_one (ps_ret (pe_tup (pa_cons (pe_ix (r := rIxL K) ix_list (pv 1) (pv 4) (fun _ _ => rfl)) (pa_cons (pe_ifExp (pt_cmpR op_eq (pv 4) pe_int (nomark _)) (pe_callB (cr_rpK (K := K) hgS huS) (by rfl) T.repr (by decide +kernel) (pa_cons (pe_pfdK (K := K) pnF (pv 0)) pa_nil)) pe_str) pa_nil))))))))))))))))), ?_⟩
    have xc := ec.xc
    have r := fun i (hi : i < 18) => ec.row i hi
    have lj := ec.lt
    have no := ec.no
    refine ⟨fun σ' H' => σ' = [some (.ref p.1), some (.str "NotAPattern NotARun InvalidResistance InvalidCount InvalidText InvalidName InvalidClaim InvalidIndex"), none, none, none] ∧ Same H H', ⟨rfl, Same.refl _⟩, ?_⟩
    rintro σ1 H1 ⟨rfl, s0⟩
    refine ⟨fun σ' H' => ∃ l, σ' = [some (.ref p.1), some (.ref l), none, none, none] ∧ Same H H' ∧ H' l = some (.lst (wordsF.map V.str)), ?_, ?_⟩
    · refine ⟨_, rfl, _, _, rfl, rfl, (by decide +kernel), ⟨_, rfl⟩, _, _, rfl, rfl, (by decide +kernel), (by decide +kernel), fun q nq => ?_⟩
      rw [split_words]
      exact ⟨q, rfl, s0.trans (same_upd nq), upd_same⟩
    rintro σ1 H1 ⟨l, rfl, s1, hl⟩
    have e1 := px.same s1
    refine ⟨fun σ' H' => ∃ q, σ' = [some (.ref p.1), some (.ref l), some (.ref q), none, none] ∧ Same H H' ∧ H' l = some (.lst (wordsF.map V.str)) ∧ H' q = some (.lst (fnF (tbF j) 0 3)), ?_, ?_⟩
    · refine ⟨_, rfl, C, _, _, _, rfl, .own _, xc, e1, r 0 (by decide), _, rfl, C, _, _, _, rfl, .own _, xc, e1, r 1 (by decide), _, rfl, C, _, _, _, rfl, .own _, xc, e1, r 2 (by decide), (by show 3 ≤ sizeLine; decide), fun q o => ?_⟩
      exact ⟨q, rfl, s1.trans (same_upd o), same_upd o _ _ hl, upd_same⟩
    clear s1 hl e1
    rintro σ1 H1 ⟨q, rfl, s1, hl, l1⟩
    have e1 := px.same s1
    refine ⟨fun σ' H' => ∃ q, σ' = [some (.ref p.1), some (.ref l), some (.ref q), none, none] ∧ Same H H' ∧ H' l = some (.lst (wordsF.map V.str)) ∧ H' q = some (.lst (fnF (tbF j) 0 6)), ?_, ?_⟩
    · refine ⟨_, rfl, _, rfl, C, _, _, _, rfl, .own _, xc, e1, r 3 (by decide), _, rfl, C, _, _, _, rfl, .own _, xc, e1, r 4 (by decide), _, rfl, C, _, _, _, rfl, .own _, xc, e1, r 5 (by decide), (by show 3 ≤ sizeLine; decide), fun q' np => ⟨q, q', _, _, rfl, rfl, same_upd np _ _ l1, upd_same, (by show 6 ≤ sizeLine; decide), fun z nz => ?_⟩⟩
      exact ⟨z, rfl, (s1.trans (same_upd np)).trans (same_upd nz), same_upd nz _ _ (same_upd np _ _ hl), upd_same⟩
    clear s1 hl e1
    rintro σ1 H1 ⟨q, rfl, s1, hl, l1⟩
    have e1 := px.same s1
    refine ⟨fun σ' H' => ∃ q, σ' = [some (.ref p.1), some (.ref l), some (.ref q), none, none] ∧ Same H H' ∧ H' l = some (.lst (wordsF.map V.str)) ∧ H' q = some (.lst (fnF (tbF j) 0 9)), ?_, ?_⟩
    · refine ⟨_, rfl, _, rfl, C, _, _, _, rfl, .own _, xc, e1, r 6 (by decide), _, rfl, C, _, _, _, rfl, .own _, xc, e1, r 7 (by decide), _, rfl, C, _, _, _, rfl, .own _, xc, e1, r 8 (by decide), (by show 3 ≤ sizeLine; decide), fun q' np => ⟨q, q', _, _, rfl, rfl, same_upd np _ _ l1, upd_same, (by show 9 ≤ sizeLine; decide), fun z nz => ?_⟩⟩
      exact ⟨z, rfl, (s1.trans (same_upd np)).trans (same_upd nz), same_upd nz _ _ (same_upd np _ _ hl), upd_same⟩
    clear s1 hl e1
    rintro σ1 H1 ⟨q, rfl, s1, hl, l1⟩
    have e1 := px.same s1
    refine ⟨fun σ' H' => ∃ q, σ' = [some (.ref p.1), some (.ref l), some (.ref q), none, none] ∧ Same H H' ∧ H' l = some (.lst (wordsF.map V.str)) ∧ H' q = some (.lst (fnF (tbF j) 0 12)), ?_, ?_⟩
    · refine ⟨_, rfl, _, rfl, C, _, _, _, rfl, .own _, xc, e1, r 9 (by decide), _, rfl, C, _, _, _, rfl, .own _, xc, e1, r 10 (by decide), _, rfl, C, _, _, _, rfl, .own _, xc, e1, r 11 (by decide), (by show 3 ≤ sizeLine; decide), fun q' np => ⟨q, q', _, _, rfl, rfl, same_upd np _ _ l1, upd_same, (by show 12 ≤ sizeLine; decide), fun z nz => ?_⟩⟩
      exact ⟨z, rfl, (s1.trans (same_upd np)).trans (same_upd nz), same_upd nz _ _ (same_upd np _ _ hl), upd_same⟩
    clear s1 hl e1
    rintro σ1 H1 ⟨q, rfl, s1, hl, l1⟩
    have e1 := px.same s1
    refine ⟨fun σ' H' => ∃ q, σ' = [some (.ref p.1), some (.ref l), some (.ref q), none, none] ∧ Same H H' ∧ H' l = some (.lst (wordsF.map V.str)) ∧ H' q = some (.lst (fnF (tbF j) 0 15)), ?_, ?_⟩
    · refine ⟨_, rfl, _, rfl, C, _, _, _, rfl, .own _, xc, e1, r 12 (by decide), _, rfl, C, _, _, _, rfl, .own _, xc, e1, r 13 (by decide), _, rfl, C, _, _, _, rfl, .own _, xc, e1, r 14 (by decide), (by show 3 ≤ sizeLine; decide), fun q' np => ⟨q, q', _, _, rfl, rfl, same_upd np _ _ l1, upd_same, (by show 15 ≤ sizeLine; decide), fun z nz => ?_⟩⟩
      exact ⟨z, rfl, (s1.trans (same_upd np)).trans (same_upd nz), same_upd nz _ _ (same_upd np _ _ hl), upd_same⟩
    clear s1 hl e1
    rintro σ1 H1 ⟨q, rfl, s1, hl, l1⟩
    have e1 := px.same s1
    refine ⟨fun σ' H' => ∃ z, σ' = [some (.ref p.1), some (.ref l), some (.ref q), some (.ref z), none] ∧ Same H H' ∧ H' l = some (.lst (wordsF.map V.str)) ∧ H' q = some (.lst (fnF (tbF j) 0 15)) ∧ H' z = some (.lst (fnF (tbF j) 15 3)), ?_, ?_⟩
    · refine ⟨_, rfl, C, _, _, _, rfl, .own _, xc, e1, r 15 (by decide), _, rfl, C, _, _, _, rfl, .own _, xc, e1, r 16 (by decide), _, rfl, C, _, _, _, rfl, .own _, xc, e1, r 17 (by decide), (by show 3 ≤ sizeLine; decide), fun z o => ?_⟩
      exact ⟨z, rfl, s1.trans (same_upd o), same_upd o _ _ hl, same_upd o _ _ l1, upd_same⟩
    clear s1 hl e1 l1
    rintro σ1 H1 ⟨z, rfl, s1, hl, l1, l2⟩
    rw [fnF_bl] at l1 l2
    obtain ⟨f1, f2⟩ := rowF_first j lj
    have dq : Dp K H1 (.ref q) (.list ((rowF j 0 15).map PyData.bool)) := .lst (SqL.of l1) (dp_bls _)
    have dz : Dp K H1 (.ref z) (.list ((rowF j 15 3).map PyData.bool)) := .lst (SqL.of l2) (dp_bls _)
    obtain ⟨sh1, sh2⟩ := rowF_sh j lj
    refine ⟨fun σ' H' => σ' = [some (.ref p.1), some (.ref l), some (.ref q), some (.ref z), some (.int (j : Int))] ∧ H' = H1, ?_, ?_⟩
    · refine ⟨_, rfl, .inl ⟨rfl, _, SqL.of l1⟩, q, _, true, rfl, rfl, SqL.of l1, ?_⟩
      rw [rowF_count j lj]
      refine ⟨rfl, _, rfl, iteT ?_⟩
      refine ⟨_, rfl, .inl ⟨rfl, _, SqL.of l1⟩, q, .bl true, .bool true, _, j, .bool true, rfl, rfl, dq, .bl true, sh1, (by decide), (by rw [List.getElem?_map, f1]; rfl), (by decide), fun m z' hm hz => ?_, ?_⟩
      · rw [List.getElem?_map, f2 m hm] at hz
        cases hz
        decide
      · exact ⟨rfl, rfl⟩
    rintro σ1 H2 ⟨rfl, rfl⟩
    have e2 := px.same s1
    have hd2 := s1 _ _ hd
    have hq2 := hq.same s1
    have hjw := wordF_at lj
    refine ⟨_, rfl, _, _, rfl, rfl, _, rfl, ite2 (fun e => ?_) (fun e => ?_)⟩
    · exact absurd (of_decide_eq_true e : (j : Int) < 0) (by omega)
    clear e
    refine ⟨_, rfl, _, rfl, _, _, rfl, rfl, _, rfl, _, _, rfl, rfl, _, rfl, ?_⟩
    have fin : ∀ {H3 : Hp} {bb : Bool} {y : Addr}, H2 y = none → bb = decide ((8 : Int) < j ∧ (j : Int) < 11) → H3 = upd H2 y (.lst [.bl (decide ((j : Int) < 9)), .bl bb, .bl (decide ((j : Int) > 10))]) →
        Same H H3 ∧ H3 l = some (.lst (wordsF.map V.str)) ∧ Dp K H3 (.ref z) (.list ((rowF j 15 3).map PyData.bool)) ∧ Dp K H3 (.ref y) (.list ((rowF j 15 3).map PyData.bool)) := fun {H3 bb y} ny hb h3 => by
      subst h3
      have sy := same_upd (o := .lst [.bl (decide ((j : Int) < 9)), .bl bb, .bl (decide ((j : Int) > 10))]) ny
      refine ⟨s1.trans sy, sy _ _ hl, .lst (SqL.of (sy _ _ l2)) (dp_bls _), ?_⟩
      have e : ([.bl (decide ((j : Int) < 9)), .bl bb, .bl (decide ((j : Int) > 10))] : List V) = (rowF j 15 3).map V.bl := by
        rw [rowF_base j lj, hb]
        rfl
      rw [e]
      exact .lst (SqL.of upd_same) (dp_bls _)
    have neq : (!PyData.eqv (.list ((rowF j 15 3).map PyData.bool)) (.list ((rowF j 15 3).map PyData.bool))) = false := by
      rw [SeqAt.eqv_refl _ (SeqAt.canLay_of_shaped sh2)]
      rfl
    have given : (j < 8 ∨ j = 9) → fldF j = Str.ofString "given" := fun z => if_pos z
    refine ite2 (fun h8 => ?_) (fun h8 => ?_)
    · refine ⟨_, _, rfl, rfl, _, rfl, _, _, rfl, rfl, (by show 3 ≤ sizeLine; decide), fun y ny => ?_⟩
      obtain ⟨s3, hl3, d1, d2⟩ := fin ny (show decide ((j : Int) < 11) = _ by rw [decide_eq_decide]; exact ⟨fun a => ⟨of_decide_eq_true h8, a⟩, fun a => a.2⟩) rfl
      refine ⟨_, _, d1, d2, sh2, sh2, ?_⟩
      rw [neq]
      refine ⟨_, rfl, iteF ?_⟩
      have hd3 := s3 _ _ hd
      have hq3 := hq.same s3
      have hx3 : atI (wordsF.map V.str) (j : Int) = some (V.str (wordF j)) := atI_nat hjw
      refine ⟨_, rfl, _, _, rfl, rfl, _, rfl, ite2 (fun e8 => iteT ?_) (fun e8 => ⟨_, rfl, rfl, _, rfl, ite2 (fun e9 => ?_) (fun e9 => ?_)⟩)⟩
      · have ef := given (.inl (by have := (of_decide_eq_true e8 : (j : Int) < 8); omega))
        rw [ef] at hd3 no
        refine ⟨_, rfl, _, rfl, l, _, _, _, rfl, rfl, SqL.of hl3, hx3, _, rfl, C, dx, _, v, rfl, xc, no, px.1, px.2.1, hdx, hd3, rfl, v, e, rfl, hq3, q1, q2, q3, (by show 2 ≤ sizeLine; decide), fun t nt => ?_⟩
        exact k _ t (s3.trans (same_upd nt)) upd_same
      · have ef := given (.inr (by have := V.int.inj (of_decide_eq_true e9); omega))
        rw [ef] at hd3 no
        refine ⟨_, rfl, _, rfl, l, _, _, _, rfl, rfl, SqL.of hl3, hx3, _, rfl, C, dx, _, v, rfl, xc, no, px.1, px.2.1, hdx, hd3, rfl, v, e, rfl, hq3, q1, q2, q3, (by show 2 ≤ sizeLine; decide), fun t nt => ?_⟩
        exact k _ t (s3.trans (same_upd nt)) upd_same
      have y8 : ¬ (j : Int) < 8 := fun z => e8 (decide_eq_true z)
      have y9 : ¬ (j : Int) = 9 := fun z => e9 (decide_eq_true (congrArg V.int z))
      have nb : ¬ (j < 8 ∨ j = 9) := by omega
      refine ⟨_, rfl, (by show 3 ≤ sizeLine; decide), fun y' ny' => ?_⟩
      have sy := same_upd (o := .lst [.int 8, .int 10, .int 12]) ny'
      refine ⟨.int (j : Int), [.int 8, .int 10, .int 12], .int _, .lst (SqL.of upd_same) (.cons (.int _) (.cons (.int _) (.cons (.int _) .nil))), rfl, by decide, _, rfl, ite2 (fun e10 => ?_) (fun e10 => ?_)⟩
      · have y11 : ¬ j = 11 := by
          intro z
          subst z
          exact absurd e10 (by decide)
        have ef : fldF j = Str.ofString "index" := by
          unfold fldF
          rw [if_neg nb, if_neg y11]
        rw [ef] at hd3 no
        refine ⟨_, rfl, _, rfl, l, _, _, _, rfl, rfl, SqL.of (sy _ _ hl3), hx3, _, rfl, C, dx, _, v, rfl, xc, no, px.1, px.2.1, hdx, sy _ _ hd3, rfl, v, e, rfl, hq3.same sy, q1, q2, q3, (by show 2 ≤ sizeLine; decide), fun t nt => ?_⟩
        exact k _ t ((s3.trans sy).trans (same_upd nt)) upd_same
      · have y11 : j = 11 := by
          refine Classical.byContradiction fun y11 => e10 ?_
          have : j = 8 ∨ j = 10 ∨ j = 12 := by omega
          rcases this with rfl | rfl | rfl <;> decide
        have ef : fldF j = Str.ofString "most" := by
          unfold fldF
          rw [if_neg nb, if_pos y11]
        rw [ef] at hd3 no
        refine ⟨_, rfl, _, rfl, l, _, _, _, rfl, rfl, SqL.of (sy _ _ hl3), hx3, _, rfl, rfl, _, rfl, ite2 (fun _ => ?_) (fun z => absurd (decide_eq_true (show V.int (j : Int) = V.int 11 by rw [y11]; rfl)) z)⟩
        refine ⟨_, rfl, C, dx, _, v, rfl, xc, no, px.1, px.2.1, hdx, sy _ _ hd3, rfl, v, e, rfl, hq3.same sy, q1, q2, q3, (by show 2 ≤ sizeLine; decide), fun t nt => ?_⟩
        exact k _ t ((s3.trans sy).trans (same_upd nt)) upd_same
    · refine ⟨_, rfl, _, _, rfl, rfl, (by show 3 ≤ sizeLine; decide), fun y ny => ?_⟩
      obtain ⟨s3, hl3, d1, d2⟩ := fin ny (show false = _ from (decide_eq_false fun a => h8 (decide_eq_true a.1)).symm) rfl
      refine ⟨_, _, d1, d2, sh2, sh2, ?_⟩
      rw [neq]
      refine ⟨_, rfl, iteF ?_⟩
      have hd3 := s3 _ _ hd
      have hq3 := hq.same s3
      have hx3 : atI (wordsF.map V.str) (j : Int) = some (V.str (wordF j)) := atI_nat hjw
      refine ⟨_, rfl, _, _, rfl, rfl, _, rfl, ite2 (fun e8 => iteT ?_) (fun e8 => ⟨_, rfl, rfl, _, rfl, ite2 (fun e9 => ?_) (fun e9 => ?_)⟩)⟩
      · have ef := given (.inl (by have := (of_decide_eq_true e8 : (j : Int) < 8); omega))
        rw [ef] at hd3 no
        refine ⟨_, rfl, _, rfl, l, _, _, _, rfl, rfl, SqL.of hl3, hx3, _, rfl, C, dx, _, v, rfl, xc, no, px.1, px.2.1, hdx, hd3, rfl, v, e, rfl, hq3, q1, q2, q3, (by show 2 ≤ sizeLine; decide), fun t nt => ?_⟩
        exact k _ t (s3.trans (same_upd nt)) upd_same
      · have ef := given (.inr (by have := V.int.inj (of_decide_eq_true e9); omega))
        rw [ef] at hd3 no
        refine ⟨_, rfl, _, rfl, l, _, _, _, rfl, rfl, SqL.of hl3, hx3, _, rfl, C, dx, _, v, rfl, xc, no, px.1, px.2.1, hdx, hd3, rfl, v, e, rfl, hq3, q1, q2, q3, (by show 2 ≤ sizeLine; decide), fun t nt => ?_⟩
        exact k _ t (s3.trans (same_upd nt)) upd_same
      have y8 : ¬ (j : Int) < 8 := fun z => e8 (decide_eq_true z)
      have y9 : ¬ (j : Int) = 9 := fun z => e9 (decide_eq_true (congrArg V.int z))
      have nb : ¬ (j < 8 ∨ j = 9) := by omega
      refine ⟨_, rfl, (by show 3 ≤ sizeLine; decide), fun y' ny' => ?_⟩
      have sy := same_upd (o := .lst [.int 8, .int 10, .int 12]) ny'
      refine ⟨.int (j : Int), [.int 8, .int 10, .int 12], .int _, .lst (SqL.of upd_same) (.cons (.int _) (.cons (.int _) (.cons (.int _) .nil))), rfl, by decide, _, rfl, ite2 (fun e10 => ?_) (fun e10 => ?_)⟩
      · have y11 : ¬ j = 11 := by
          intro z
          subst z
          exact absurd e10 (by decide)
        have ef : fldF j = Str.ofString "index" := by
          unfold fldF
          rw [if_neg nb, if_neg y11]
        rw [ef] at hd3 no
        refine ⟨_, rfl, _, rfl, l, _, _, _, rfl, rfl, SqL.of (sy _ _ hl3), hx3, _, rfl, C, dx, _, v, rfl, xc, no, px.1, px.2.1, hdx, sy _ _ hd3, rfl, v, e, rfl, hq3.same sy, q1, q2, q3, (by show 2 ≤ sizeLine; decide), fun t nt => ?_⟩
        exact k _ t ((s3.trans sy).trans (same_upd nt)) upd_same
      · have y11 : j = 11 := by
          refine Classical.byContradiction fun y11 => e10 ?_
          have : j = 8 ∨ j = 10 ∨ j = 12 := by omega
          rcases this with rfl | rfl | rfl <;> decide
        have ef : fldF j = Str.ofString "most" := by
          unfold fldF
          rw [if_neg nb, if_pos y11]
        rw [ef] at hd3 no
        refine ⟨_, rfl, _, rfl, l, _, _, _, rfl, rfl, SqL.of (sy _ _ hl3), hx3, _, rfl, rfl, _, rfl, ite2 (fun _ => ?_) (fun z => absurd (decide_eq_true (show V.int (j : Int) = V.int 11 by rw [y11]; rfl)) z)⟩
        refine ⟨_, rfl, C, dx, _, v, rfl, xc, no, px.1, px.2.1, hdx, sy _ _ hd3, rfl, v, e, rfl, hq3.same sy, q1, q2, q3, (by show 2 ≤ sizeLine; decide), fun t nt => ?_⟩
        exact k _ t ((s3.trans sy).trans (same_upd nt)) upd_same
end
end RL

set_option maxHeartbeats 2000000
namespace RL
open PySem L2 PySem.Spec PyProof.Rows
def cgtF (K : PySem.W.Frag) (c : Nat → Addr) (Q : VK) : XK := fun cls d H => ∃ (C : Addr) (j : Nat) (dx : Addr) (v : V) (e : PyData), cls = .ref C ∧ EF K c C j ∧ d = some dx ∧ H dx = some (.xd [(fldF j, v)]) ∧
  Dq K H v e ∧ e.showable = true ∧ e.depth ≤ 40 ∧ e.shown.length ≤ sizeLine ∧ ∀ H' t, Same H H' → H' t = some (.tup [.str (wordF j), .str e.shown]) → Q (.ref t) H'
def TTf (K : PySem.W.Frag) (c : Nat → Addr) (rR : List V → Hp → VK → Prop) : (XK → Hp → VK → Prop) → Hp → VK → Prop := fun tl H Q =>
  tl (cgtF K c Q) H fun v H2 => rR [v] H2 fun r H3 => [V.str (Str.ofString "told"), r].length ≤ sizeLine ∧ ∀ l, H3 l = none → Q (.ref l) (upd H3 l (.tup [V.str (Str.ofString "told"), r]))
theorem pssF_all {X : Cx} {b : List Stmt} {cls : Value} {d : Option Addr} {t : Obj → TS} (oe : Obj) (hz : L2N.Zn cls d oe) (hf : ∃ vs, oe.data = .fields vs) (h : PSs X b (t oe)) : PSs X b (fun D σ H => ∀ oe, L2N.Zn cls d oe → (∃ vs, oe.data = .fields vs) → t oe D σ H) :=
  ⟨fun pins s σ H D I q => h.run pins s σ H D I (q oe hz hf)⟩
def tVarD (i : Nat) : TE := fun σ H Q => match σ[i]? with
  | some (some v) => Q v H
  | _ => False
theorem pe_varD {X : Cx} {e : Expr} {i : Nat} (h : PE X e (tVar i)) : PE X e (tVarD i) := ⟨fun pins s σ H Q I q => h.run pins s σ H Q I (by
  unfold tVarD at q
  split at q
  · rename_i v hv
    exact ⟨v, hv, q⟩
  · exact q.elim)⟩
abbrev s_law_told : Stmt := top 125
theorem sc_law_told : FnScope ["_law_act", "_law_found", "_law_e"] ["_law_act"] (defScope s_law_told) := ⟨rfl, rfl, rfl, by decide +kernel, rfl, by decide +kernel, by decide +kernel⟩

structure ToldD (P : Program) (w : World) (K : PySem.W.Frag) (mg : Str → Option Value) (base : Heap) (c : Nat → Addr) (kr : Nat) (rR : List V → Hp → VK → Prop) : Prop where
  T : Txt K mg
  TE : TxF mg c
  ex : ∃ (g : Addr) (fd : FuncData), Fun K "_law_told" "_law_told" s_law_told g fd ∧ mg "_law_told" = some (.ref g)
  err : DfF P w K mg base 2 "_law_error" ["_law_e"] (spErr K c)
  rp : ∀ X : Cx, X.prog = P → X.w = w → X.K = K → X.mg = mg → X.base = base → X.A.guards = some [] → Room kr X.A → CallR X (.builtin "repr") rR
theorem hot_of {A : Around} {a : Addr} {cls : Value} {d : Option Addr} {oe : Obj} (hg : A.guards = some []) (hz : L2N.Zn cls d oe) (hf : ∃ vs, oe.data = .fields vs) : (A.mark (some (.ref a))).guards = some [] ∧ L2H.Hot1 (A.mark (some (.ref a))) (a, oe) := by
  obtain ⟨vs, hv⟩ := hf
  exact ⟨hg, rfl, vs, hv, hz.2.2 vs hv⟩
section
variable {X : Cx} {c : Nat → Addr} {kr : Nat} {rR : List V → Hp → VK → Prop}
theorem told_gives {k : Nat} {q : Str} {g : Addr} {cdg : Value} (CG : ToldD X.prog X.w X.K X.mg X.base c kr rR) (hgd : X.A.guards = some []) (hk : kr ≤ k + 1) (hk1 : 1 ≤ k) :
    GivesN X k ["_law_act", "_law_found", "_law_e"] "_law_told" (defScope s_law_told) g cdg (defBody s_law_told) "_law_act" q (TTf X.K c rR) := by
  intro f c' s H Q tl hr hact hc hT
  have T := CG.T
  have TE := CG.TE
  have D_law_error := CG.err
  have hgS : (X.A.deeper (envOfC "_law_told" (defScope s_law_told) s.heap.objs.size g cdg)).guards = some [] := hgd
  have hk2 : 2 ≤ k + 1 := by omega
  have sc := sc_law_told
  refine ⟨_, pss_cons (ps_try_as3 (X := (cxOf CX0 X.prog X.w X.K X.mg X.base ["_law_act", "_law_found", "_law_e"] "_law_told" (defScope s_law_told) g cdg X.A X.stack s H E0).nox) (i := 2) (c1 := .ref (c 15)) (c2 := .ref (c 16)) (c3 := .ref (c 17))
    (tb := fun W D σ H => ∃ Ech : XK, σ[0]? = some (some (.ref f)) ∧ H c' = some (LamX.CodeO c' q) ∧ (∀ cls d H', Ech cls d H' → W cls d σ H') ∧ tl Ech H fun v H2 => D.nx (σ.set 1 (some v)) H2)
    rfl rfl sc.nd rfl rfl ⟨rfl, by decide, .inl TE.m15⟩ ⟨rfl, by decide, .inl TE.m16⟩ ⟨rfl, by decide, .inl TE.m17⟩ (fun W pn xe tk _ => ⟨fun pins s' σ H' D I h => ?_⟩)
    (fun a oe cls d pn hz hf => pssF_all (cls := cls) (d := d) oe hz hf (pss_one (ps_ret (pe_dfF D_law_error (L2H.roomH_mark (hr.mono hk2) (some (.ref a))) (hot_of hgd hz hf) List.mem_cons_self (by rfl) (pa_cons (pv 2) pa_nil))))))
    (pss_one (ps_ret (pe_tup (pa_cons pe_str (pa_cons (pe_callB (CG.rp _ rfl rfl rfl rfl rfl hgS (hr.mono hk)) (by rfl) T.repr (by decide +kernel) (pa_cons (pe_varD (pv 1)) pa_nil)) pa_nil))))), ?_⟩
  · obtain ⟨Ech, h1, h2, h3, h4⟩ := h
    exact (pss_one (ps_set (i := 1) sc.nd rfl (.inl rfl) (hact W pn xe Ech _ _ tk))).run pins s' σ H' D I ⟨h1, h2, h3, h4⟩
  · refine ⟨cgtF X.K c Q, rfl, hc, fun cls d H1 hE => ?_, ?_⟩
    · obtain ⟨C, j, dx, v, e, rfl, ec, rfl, hd, hq, q1, q2, q3, kf⟩ := hE
      refine ⟨ec.any, fun a na oe hz hf => ?_⟩
      exact ⟨_, rfl, C, j, dx, v, e, rfl, ec, ⟨hz.1, hf, .inr ⟨dx, _, hz.2.1, hd⟩⟩, hz.2.1, hd, hq, q1, q2, q3, kf⟩
    · exact hT
theorem pe_told {k : Nat} {T : List (Addr × Str)} {cA PA : Addr} {params : Arguments} {body : Expr} {scope : Scope} {t : XK → TE} {p lpos pos : Pos} (CG : ToldD X.prog X.w X.K X.mg X.base c kr rR) (hgd : X.A.guards = some []) (hk : kr ≤ k + 1) (hk1 : 1 ≤ k)
    (TB : LamX.TabB X.base X.mg cA PA) (hcode : X.env.code = .ref cA) (hmT : (PA, X.env.qual ++ "<lambda>") ∈ T) (hu : ∀ p ∈ T, p.1 = PA → p.2 = X.env.qual ++ "<lambda>") (hr : Room (k + 2) X.A) (hL : LamX.lamSB X.env.scope scope = true)
    (hbody : ∀ (A : Around) (outer : List Env) (s : Shared) (H : Hp) (E : XK) (f c' : Addr), A.guards = some [] → Room k (A.deeper (LamX.lamEnv X scope s.heap.objs.size f c')) → PE (lamN X A outer s H E scope f c') body (t E))
    (hg : Gl X "_law_told" := by rfl) (hdef : defaultsOf params X.env = ([], []) := by rfl) (hbind : ∀ (q : Str) (cl : List (Str × Addr)) (pm cv ctv : Value), bindArgs (PySem.W.kla_fn "<lambda>" q params body scope cl pm cv ctv) ⟨[], []⟩ = pure [] := by intros; rfl) :
    PE X (.Call (.Name "_law_told" p) [.Lambda params body scope lpos] [] pos) (LamX.tLam T (TTf X.K c rR) t) := by
  obtain ⟨g, fd, F, hm⟩ := CG.ex
  obtain ⟨oc, od, kV, doc, pm, an, cdv, ct, osl, rfl, lk, hcd⟩ := F.ex
  have b := F.binds (ps := ["_law_act"]) fun _ _ _ _ _ _ us hl => match us, hl with | [_], _ => rfl
  exact pe_lamN hg hm F.kp lk hcd b sc_law_told rfl (.inl rfl) (told_gives CG hgd hk hk1) TB hcode hmT hu hr (LamX.lamS_by hL) hdef hbind (fun A outer s H E f c' hA hr2 => hbody A outer s H E f c' (hA.trans hgd) hr2)
end
end RL

set_option maxHeartbeats 2000000
namespace RL
open PySem L2 PySem.Spec PyProof.Rows
structure Bi (P : Program) (w : World) (K : PySem.W.Frag) (mg : Str → Option Value) (base : Heap) (x : Str) : Prop where
  ex : ∃ (C g : Addr) (mc : Value) (fd : FuncData), mg x = some (.ref C) ∧ ClX.CRead K C mc ∧ PySem.W.findCls K (.ref C) mc "__init__" = some (.val (.ref g)) ∧ PySem.W.keepIn K (.ref g) = true ∧ FnOk P w K mg base CX0 1 g fd ["self"] spN ∧ Binds K fd ["self"] []
def cF (cs : List Addr) (i : Nat) : Addr := cs.getD i 0
def rowBF (K : PySem.W.Frag) (cs : List Addr) (j : Nat) : Bool := (List.range 18).all fun i => decide (PySem.W.kitOne K (.ref (cF cs j)) (.ref (cF cs i)) = some (tbF j i))
theorem rowBF_ok {K : PySem.W.Frag} {cs : List Addr} {j : Nat} (h : rowBF K cs j = true) : IsRowF K (cF cs) (cF cs j) (tbF j) := fun i hi => of_decide_eq_true (List.all_eq_true.mp h i (List.mem_range.mpr hi))
structure Rz (P : Program) (w : World) (K : PySem.W.Frag) (mg : Str → Option Value) (base : Heap) (c : Nat → Addr) (j : Nat) (f : Str) : Prop where
  m : XM P w K mg base 2 (c j) ["self", f] (spI K f)
  ty : PySem.W.typeIn K (.ref (c j)) = some (.type "type")
  no : PySem.W.findIn K (.ref (c j)) f = some none
section
variable {P : Program} {w : World} {K : PySem.W.Frag} {mg : Str → Option Value} {base : Heap}
abbrev s_WrongValue_init : Stmt := inClass (top 23) 0
theorem sc_WrongValue_init : FnScope ["self"] ["self"] (defScope s_WrongValue_init) := ⟨rfl, rfl, rfl, by decide +kernel, rfl, by decide +kernel, by decide +kernel⟩

theorem ok_WrongValue_init {f : Addr} {fd : FuncData} (F : Fun K "__init__" "WrongValue.__init__" s_WrongValue_init f fd) : FnOk P w K mg base CX0 1 f fd ["self"] spN := by
  refine F.ok sc_WrongValue_init (fun vs H Q E h => ?_) (fun cdv A outer s H vs Q E hr h => ?_)
  · obtain ⟨v, rfl, _⟩ := h
    rfl
  · obtain ⟨v, rfl, k⟩ := h
    exact ⟨_, (pss_one ps_pass), k⟩
abbrev s_NotAPattern_init : Stmt := inClass (top 24) 0
theorem sc_NotAPattern_init : FnScope ["self", "given"] ["self", "given"] (defScope s_NotAPattern_init) := ⟨rfl, rfl, rfl, by decide +kernel, rfl, by decide +kernel, by decide +kernel⟩

theorem ok_NotAPattern_init {f : Addr} {fd : FuncData} (F : Fun K "__init__" "NotAPattern.__init__" s_NotAPattern_init f fd) (B : Bi P w K mg base "WrongValue") : FnOk P w K mg base CX0 2 f fd ["self", "given"] (spI K "given") := by
  obtain ⟨Cb, gb, mc, fdb, gC, rd, hf, kp, Fb, hb⟩ := B.ex
  refine F.ok sc_NotAPattern_init (fun vs H Q E h => ?_) (fun cdv A outer s H vs Q E hr h => ?_)
  · obtain ⟨a, C, y, rfl, _⟩ := h
    rfl
  · obtain ⟨a, C, y, rfl, xc, hno, ha, k⟩ := h
    refine ⟨_, (pss_cons (ps_expr (pe_xbase gC (by rfl) rd hf kp Fb (hr.mono (by decide)) hb (pa_cons (pv 0) pa_nil)))
      (pss_one (ps_xst (pv 0) (pv 1)))), ?_⟩
    exact ⟨_, rfl, _, rfl, _, rfl, _, rfl, a, C, rfl, xc, hno, ha, fun dx nd ne => k dx nd ne⟩
theorem ef_0 {cs : List Addr} (x : XC K (cF cs 0)) (r : rowBF K cs 0 = true) (any : PySem.W.exmAny K (.ref (cF cs 0)) [.ref (cF cs 15), .ref (cF cs 16), .ref (cF cs 17)] = some true) (no : PySem.W.findIn K (.ref (cF cs 0)) "given" = some none) : EF K (cF cs) (cF cs 0) 0 :=
  ⟨x, rowBF_ok r, any, by decide, (by rw [show fldF 0 = ("given" : Str) from by decide +kernel]; exact no)⟩
abbrev s_InvalidResistance_init : Stmt := inClass (top 26) 0
theorem sc_InvalidResistance_init : FnScope ["self", "given"] ["self", "given"] (defScope s_InvalidResistance_init) := ⟨rfl, rfl, rfl, by decide +kernel, rfl, by decide +kernel, by decide +kernel⟩

theorem ok_InvalidResistance_init {f : Addr} {fd : FuncData} (F : Fun K "__init__" "InvalidResistance.__init__" s_InvalidResistance_init f fd) (B : Bi P w K mg base "WrongValue") : FnOk P w K mg base CX0 2 f fd ["self", "given"] (spI K "given") := by
  obtain ⟨Cb, gb, mc, fdb, gC, rd, hf, kp, Fb, hb⟩ := B.ex
  refine F.ok sc_InvalidResistance_init (fun vs H Q E h => ?_) (fun cdv A outer s H vs Q E hr h => ?_)
  · obtain ⟨a, C, y, rfl, _⟩ := h
    rfl
  · obtain ⟨a, C, y, rfl, xc, hno, ha, k⟩ := h
    refine ⟨_, (pss_cons (ps_expr (pe_xbase gC (by rfl) rd hf kp Fb (hr.mono (by decide)) hb (pa_cons (pv 0) pa_nil)))
      (pss_one (ps_xst (pv 0) (pv 1)))), ?_⟩
    exact ⟨_, rfl, _, rfl, _, rfl, _, rfl, a, C, rfl, xc, hno, ha, fun dx nd ne => k dx nd ne⟩
theorem ef_2 {cs : List Addr} (x : XC K (cF cs 2)) (r : rowBF K cs 2 = true) (any : PySem.W.exmAny K (.ref (cF cs 2)) [.ref (cF cs 15), .ref (cF cs 16), .ref (cF cs 17)] = some true) (no : PySem.W.findIn K (.ref (cF cs 2)) "given" = some none) : EF K (cF cs) (cF cs 2) 2 :=
  ⟨x, rowBF_ok r, any, by decide, (by rw [show fldF 2 = ("given" : Str) from by decide +kernel]; exact no)⟩
end
end RL

set_option maxHeartbeats 2000000
/-! a def that may raise, called by two keywords the other way round -/
namespace RL
open PySem L2 PySem.Spec PyProof.Rows
def gSw {α : Type} : List α → List α → List α := fun us ws => match us, ws with | [], [x, y] => [y, x] | _, _ => []
theorem kb_sw {K : PySem.W.Frag} {fd : FuncData} {k1 k2 : Str} (h : ∀ (s : Shared) (x y : Value), BindsTo s fd ⟨[], [(k1, x), (k2, y)]⟩ [(k2, y), (k1, x)]) : KBinds K fd [k2, k1] [k1, k2] gSw gSw where
  to := fun s us ws _ hl => match us, ws, hl with
    | [], [x, y], _ => h s x y
  rel := fun {vs us zs ws} r rz => by
    cases r with
    | cons _ _ => exact .nil
    | nil =>
      cases rz with
      | nil => exact .nil
      | cons a rz =>
        cases rz with
        | nil => exact .nil
        | cons b rz =>
          cases rz with
          | nil => exact .cons b (.cons a .nil)
          | cons _ _ => exact .nil
structure DfNK (P : Program) (w : World) (K : PySem.W.Frag) (mg : Str → Option Value) (base : Heap) (k : Nat) (x k1 k2 : Str) (sp : Sp) : Prop where
  ex : ∃ (f : Addr) (fd : FuncData), FnOk P w K mg base (L2N.CX P w) k f fd [k2, k1] sp ∧ mg x = some (.ref f) ∧ PySem.W.keepIn K (.ref f) = true ∧ KBinds K fd [k2, k1] [k1, k2] gSw gSw
def tCallNK (sp : Sp) (E : XK) (tk : TA) : TE := fun σ H Q => tk σ H fun zs H2 => sp (gSw [] zs) H2 Q E
theorem pe_dfNK {X : Cx} {k : Nat} {x k1 k2 : Str} {sp : Sp} {E : XK} {p pos : Pos} {kws : List Keyword} {tk : TA} (D : DfNK X.prog X.w X.K X.mg X.base k x k1 k2 sp) (hr : Room k X.A) (hg : Gl X x) (hx : Passes (L2N.CX X.prog X.w) X E) (hkw : PK X kws tk)
    (hall : (backToKw pos (keywordEach kws X.env)).all (·.1.isSome) = true := by rfl) (hks : (backToKw pos (keywordEach kws X.env)).filterMap (·.1) = [k1, k2] := by rfl) (hdb : (x == ("__debug__" : Str)) = false := by decide)
    (hpl : ((backTo pos (starEach [] X.env)).any (·.1) || (backToKw pos (keywordEach kws X.env)).any (·.1.isNone)) = false := by rfl) : PE X (.Call (.Name x p) [] kws pos) (tCallNK sp E tk) := by
  obtain ⟨f, fd, F, hm, hk, hb⟩ := D.ex
  refine ⟨fun pins s σ H Q I h => ?_⟩
  refine wpAny_Call_Name_kw (ld_glob I hg hm ?_ hdb)
  refine PySem.W.callWith_KW0 (h₀ := X.base) I.ok.mod.kin hk hall (thn (hkw.run pos pins s σ H _ I h) fun ws s2 ⟨zs, H2, I2, rz, q2⟩ => ⟨I2.kIn, ?_⟩) hpl
  rw [hks]
  exact run_fnk (us := []) (vs := []) F hr hb hx I2 .nil rz q2
end RL

set_option maxHeartbeats 2000000
/-! The end of a law whose defs make lambdas: the tables of their code objects are tracked; no repr is under way. -/
namespace RL
open PySem L2 PySem.Spec PyProof.Rows
def startH (a : Addr) (sc : Option HO) (ts : List Addr) : Hp := fun b => if b = a then sc else if b ∈ ts then some (.tbl #[]) else none
theorem startH_a {a : Addr} {sc : Option HO} {ts : List Addr} : startH a sc ts a = sc := if_pos rfl
theorem startH_t {a b : Addr} {sc : Option HO} {ts : List Addr} (h : b ∈ ts) (n : b ≠ a) : startH a sc ts b = some (.tbl #[]) := (if_neg n).trans (if_pos h)
theorem startH_n {a b : Addr} {sc : Option HO} {ts : List Addr} (h : b ∉ ts) (n : b ≠ a) : startH a sc ts b = none := (if_neg n).trans (if_neg h)
theorem law_runT {P : Program} {w : World} {K : PySem.W.Frag} {mg mb : Str → Option Value} {k : Nat} {fa a : Addr} {cs : List (Addr × Addr)} {fd : FuncData} {x : Str} {sp : Sp} {s1 : Shared} {vs : List Value} {xs : List V} {sc : Option HO}
    (KX : K.In s1.heap) (hns : s1.heap.Ns mainGlobals mg) (hb : s1.heap.Ns builtinsNs mb) (hbb : ∀ x : Str, x ≠ "__name__" → mb x = bootBuiltins x) (hlim : s1.heap.NoLimit) (hgen : s1.gens = #[])
    (hT : ∀ p ∈ cs, s1.heap.get? p.2 = some { cls := .none, data := .fields #[] }) (nT : ∀ p ∈ cs, K.lookup p.2 = none) (hC : ∀ p ∈ cs, PySem.W.CodeHd s1.heap p.1 p.2)
    (hbm : ∃ (bm : Addr) (ob : Obj), mg "__builtins__" = some (.ref bm) ∧ bm ≠ builtinsNs ∧ s1.heap.get? bm = some ob ∧ ob.cls = .type "module" ∧ ob.dict = some builtinsNs ∧ ob.data = .plain)
    (ha : s1.heap.get? a = some { cls := .type "list", data := .seq vs.toArray }) (hr : Room k callerA)
    (F : ∀ base : Heap, K.In base → base.Ns mainGlobals mg → (∀ p ∈ cs, LamX.TabB base mg p.1 p.2) → FnG P w K mg base k fa fd [x] sp) (hbind : ∀ (s : Shared) (u : Value), BindsTo s fd ⟨[u], []⟩ [(x, u)])
    (hsc : sc = none ∨ (K.lookup a = none ∧ sc = some (.frz { cls := .type "list", data := .seq vs.toArray } (.lst xs)))) (hokA : ∀ u, sc = some u → ObjOk P w (startH a sc (cs.map (·.2))) s1.heap a u)
    (hsp : sp [.ref a] (startH a sc (cs.map (·.2))) (fun v _ => v = .bl true) fun _ _ _ => False) :
    codeAny (model P w) callerA (.call (.ref fa) ⟨[.ref a], []⟩) (fun r s' => r = .ok (.ret (.bool true)) ∧ OldK s1.heap s'.heap ∧ s'.os = s1.os ∧ AllBare s'.gens) s1 := by
  have isT : ∀ b : Addr, b ∈ cs.map (·.2) → s1.heap.get? b = some { cls := .none, data := .fields #[] } := fun b hb => by
    obtain ⟨p, hp, e⟩ := List.mem_map.mp hb
    rw [← e]
    exact hT p hp
  have memT : ∀ p ∈ cs, p.2 ∈ cs.map (·.2) := fun p hp => List.mem_map.mpr ⟨p, hp, rfl⟩
  have aT : ∀ b, b ∈ cs.map (·.2) → b ≠ a := fun b hb z => by
    have q := isT b hb
    rw [z, ha] at q
    have z' : Data.seq vs.toArray _ = Data.fields #[] := congrArg Obj.data (Option.some.inj q)
    cases z'
  generalize hH : startH a sc (cs.map (·.2)) = H at *
  have HT : ∀ b, b ∈ cs.map (·.2) → H b = some (.tbl #[]) := fun b hb => by rw [← hH]; exact startH_t hb (aT b hb)
  have HA : H a = sc := by rw [← hH]; exact startH_a
  have HN : ∀ b, b ∉ cs.map (·.2) → b ≠ a → H b = none := fun b hb n => by rw [← hH]; exact startH_n hb n
  -- what is neither the script nor a table is not tracked
  have free : ∀ {b : Addr} {o : Obj}, s1.heap.get? b = some o → (∀ ys n, o.data ≠ .seq ys n) → o.data ≠ .fields #[] → H b = none := fun {b o} e n1 n2 => by
    refine HN b (fun z => ?_) fun z => ?_
    · rw [isT b z] at e
      cases e
      exact n2 rfl
    · rw [z, ha] at e
      cases e
      exact n1 _ _ rfl
  have ns1 : ∀ {b : Addr} {m : Str → Option Value}, s1.heap.Ns b m → (hidT s1.heap H).Ns b m := fun {b m} ⟨o, es, ep, e, d, r⟩ => ⟨o, es, ep, hidT_get e (free e (fun _ _ z => by rw [d] at z; cases z) fun z => by rw [d] at z; cases z), d, r⟩
  have kin : K.In (hidT s1.heap H) := fun b o e => hidT_get (KX b o e) (by
    by_cases hb : b ∈ cs.map (·.2)
    · obtain ⟨p, hp, ep⟩ := List.mem_map.mp hb
      rw [← ep, nT p hp] at e
      cases e
    · by_cases hb2 : b = a
      · rw [hb2, HA]
        rcases hsc with z | ⟨z, _⟩
        · exact z
        · rw [hb2, z] at e
          cases e
      · exact HN b hb hb2)
  have hok : HOk P w H s1.heap := fun b u e => by
    by_cases hb : b ∈ cs.map (·.2)
    · rw [HT b hb] at e
      cases e
      exact isT b hb
    · by_cases hb2 : b = a
      · subst hb2
        rw [HA] at e
        exact hokA u e
      · rw [HN b hb hb2] at e
        cases e
  obtain ⟨mc, c1, c2⟩ := hlim
  have TB : ∀ p ∈ cs, LamX.TabB (hidT s1.heap H) mg p.1 p.2 := fun p hp => by
    have hTp := hT p hp
    refine ⟨?_, ?_, fun z => ?_⟩
    · obtain ⟨o, us, file, tf, flags, tg, inF, text, tt, e1, r1, r2, r3, r4, r5, r6, r7, r8, hne⟩ := hC p hp
      refine ⟨o, us, file, tf, flags, tg, inF, text, tt, hidT_get e1 (free e1 (fun _ _ z => by rw [r2] at z; cases z) fun z => ?_), r1, r2, r3, r4, r5, r6, r7, r8, hne⟩
      rw [r2] at z
      cases z
      simp at r3
    · obtain ⟨bm, ob, b1, b2, b3, b4, b5, b6⟩ := hbm
      have nG : bm ≠ mainGlobals := fun q => by
        obtain ⟨o, es, ep, e, hd, _⟩ := hns
        rw [q, e] at b3
        cases b3
        rw [hd] at b6
        cases b6
      have nP : bm ≠ p.2 := fun q => by
        rw [q, hTp] at b3
        cases b3
        cases b6
      exact ⟨bm, ob, b1, b2, nG, nP, hidT_get b3 (free b3 (fun _ _ z => by rw [b6] at z; cases z) fun z => by rw [b6] at z; cases z), b4, b5, b6⟩
    · obtain ⟨o, es, ep, e, hd, _⟩ := hns
      rw [z, hTp] at e
      cases e
      cases hd
  have e0 : Env0 P w K mg (hidT s1.heap H) callerA [] s1 H :=
    { frames := rfl, mod := ⟨kin, ns1 hns, ⟨mb, ns1 hb, hbb⟩, ⟨mc, ns1 c1, c2⟩⟩, bs := fun b o e => of_hidT e, bsz := Nat.le_of_eq (hidT_size _ _), funs := trivial, frf := fun b z => absurd (show b ∈ ([] : List Addr) from z) (by simp), hok := hok, bare := .of_eq hgen }
  refine codeAny_mono ((F _ kin (ns1 hns) TB).run callerA [] s1 H ⟨[.ref a], []⟩ [.ref a] [.ref a] _ _ rfl hr e0 (hbind s1 (.ref a)) (.cons rfl .nil) hsp) fun r s' h => ?_
  match r, h with
  | .ok (.ret u), ⟨v, H', os, bare, un, hok', r', q⟩ =>
    cases (show v = V.bl true from q)
    cases (show u = Value.bool true from r')
    have grown : ∀ p ∈ cs, ∃ more : Array Value, s'.heap.get? p.2 = some { cls := .none, data := .fields more } := fun p hp => by
      obtain ⟨more, z⟩ := un.tbls p.2 #[] (HT p.2 (memT p hp))
      exact ⟨_, hok' p.2 _ z⟩
    have key : ∀ b o, b ∉ cs.map (·.2) → s1.heap.get? b = some o → s'.heap.get? b = some o := fun b o nb e => by
      cases q2 : H b with
      | none => exact un.keep b o e q2 (fun z => absurd (show b ∈ ([] : List Addr) from z) (by simp)) (by simp)
      | some u =>
        have hba : b = a := Classical.byContradiction fun z => by
          rw [HN b nb z] at q2
          cases q2
        subst hba
        rw [HA] at q2
        rcases hsc with z | ⟨_, z⟩
        · rw [z] at q2
          cases q2
        · have q3 : H b = some (.frz { cls := .type "list", data := .seq vs.toArray } (.lst xs)) := by rw [HA, z]
          obtain ⟨e1, _⟩ := hok b _ q3
          obtain ⟨e2, _⟩ := hok' b _ (un.frzs b _ _ q3)
          rw [e] at e1
          cases e1
          exact e2
    refine ⟨rfl, ⟨fun b o e => ?_, fun b o e => ?_⟩, os, bare⟩
    · by_cases hb : b ∈ cs.map (·.2)
      · obtain ⟨p, hp, ep⟩ := List.mem_map.mp hb
        obtain ⟨more, hm⟩ := grown p hp
        rw [← ep] at e ⊢
        rw [hT p hp] at e
        cases e
        exact .inr (.inl ⟨((hC p hp).tab (hT p hp)).isCodeTable, rfl, #[], more, rfl, by rw [Array.empty_append]; exact hm⟩)
      · exact .inl (key b o hb e)
    · by_cases hb : b ∈ cs.map (·.2)
      · obtain ⟨p, hp, ep⟩ := List.mem_map.mp hb
        obtain ⟨more, hm⟩ := grown p hp
        rw [← ep]
        exact ⟨_, hm⟩
      · exact ⟨o, key b o hb e⟩
def LawT (l : PySem.W.OpenLaw) (w : World) (K : PySem.W.Frag) (k n : Nat) (x : Str) (mg : Str → Option Value) (fa : Addr) (h : Heap) : Prop :=
  ∃ (fd : FuncData) (cs : List (Addr × Addr)) (sp : Sp), (∀ p ∈ cs, h.get? p.2 = some { cls := .none, data := .fields #[] }) ∧ (∀ p ∈ cs, K.lookup p.2 = none) ∧ (∀ p ∈ cs, PySem.W.CodeHd h p.1 p.2) ∧ (∀ (s : Shared) (u : Value), BindsTo s fd ⟨[u], []⟩ [(x, u)]) ∧
    (∀ (H : Hp) (a : Addr) (ns : List Int), ns.length ≤ n → (∀ p ∈ cs, H p.2 = some (.tbl #[])) → SqL K H a (ns.map V.int) → sp [.ref a] H (fun v _ => v = .bl true) fun _ _ _ => False) ∧
    ∀ base : Heap, K.In base → base.Ns mainGlobals mg → (∀ p ∈ cs, LamX.TabB base mg p.1 p.2) → FnG l.prog w K mg base k fa fd [x] sp
end RL

/-! a def whose code object is known (it makes lambdas) -/
namespace RL
open PySem L2 PySem.Spec PyProof.Rows
structure FunC (K : PySem.W.Frag) (x qual : Str) (st : Stmt) (f : Addr) (fd : FuncData) (cA : Addr) : Prop where
  ex : ∃ (oc : Value) (od : Option Addr) (kV doc pm : Value) (an : Option Addr) (ct : Value) (osl : Array (Option Value)),
    fd = PySem.W.fnOf x qual (defArgs st) (defBody st) (defScope st) .none kV doc pm an (.ref cA) ct ∧ K.lookup f = some ⟨oc, od, .func fd, osl⟩ ∧ PySem.W.codeIn K (.ref cA) qual = true
section
variable {P : Program} {w : World} {K : PySem.W.Frag} {mg : Str → Option Value} {base : Heap}
theorem okGC {x qual : Str} {st : Stmt} {f cA : Addr} {fd : FuncData} {N ps : List Str} {k : Nat} {sp : Sp} (F : FunC K x qual st f fd cA) (S : FnScope N ps (defScope st)) (len : ∀ vs H Q E, sp vs H Q E → vs.length = ps.length)
    (bd : ∀ (A : Around) (outer : List Env) (s : Shared) (H : Hp) (vs : List V) (Q : VK) (E : XK), A.guards = some [] → Room k (A.deeper (envOfC qual (defScope st) s.heap.objs.size f (.ref cA))) → sp vs H Q E →
      ∃ t, PSs (cxOf CX0 P w K mg base N qual (defScope st) f (.ref cA) A outer s H E).nox (defBody st) t ∧ t { nx := fun _ H' => Q .non H', rt := Q } (start N vs) H) : FnG P w K mg base (k + 1) f fd ps sp := by
  obtain ⟨oc, od, kV, doc, pm, an, ct, osl, rfl, lk, hcd⟩ := F.ex
  refine ⟨len, fun A outer s H args us vs Q E hg hr e0 hb r hsp => ?_⟩
  have KX : K.In s.heap := e0.mod.kin.keeps fun b o e => (e0.bs b o e).1
  have lim := e0.mod.nolimit.keeps fun b o e => (e0.bs b o e).1
  refine codeAny_call_function hr.depth (KX _ _ lk) rfl S.co S.gen rfl (PySem.W.codeRec_of KX hcd) (hb _ _ _ _ (wpAny_newFunctionEnv_cells S.kind (fun ⟨n, v⟩ hy => ?_) fun env he s1 x => ?_))
  · exact (S.par n (List.of_mem_zip hy).1).imp id fun q => ⟨q, PySem.W.cellsFrom_some _ _ _ (.inl q)⟩
  · subst he
    obtain ⟨t, ht, hq⟩ := bd A outer s H vs Q E hg (hr.deeper _) hsp
    have I : Inv (cxOf CX0 P w K mg base N qual (defScope st) f (.ref cA) A outer s H E) [] (start N vs) H s1 := inv_start S hr.hd e0 (len _ _ _ _ hsp) r x
    refine ⟨lim.keeps x.toInCall.keep, codeAny_func (wpAny_mono (ht.nox.run [] s1 _ H _ I hq) (fun fl s' hs => ?_) fun _ _ z => z)⟩
    cases fl with
    | ret u =>
      obtain ⟨v, σ', H', J, rv, q⟩ := hs
      exact ⟨v, H', J.os, J.bare, J.base, J.hok, rv, q⟩
    | next =>
      obtain ⟨σ', H', J, q⟩ := hs
      exact ⟨V.non, H', J.os, J.bare, J.base, J.hok, rfl, q⟩
    | brk => exact hs.elim fun _ z => z.elim fun _ y => False.elim y.2
    | cont => exact hs.elim fun _ z => z.elim fun _ y => False.elim y.2
end
end RL

set_option maxHeartbeats 4000000
namespace RL
open PySem L2 PySem.Spec PyProof.Rows
/-! ### heaps in which tables grow -/
def ButT (c : Addr) (H H' : Hp) : Prop := ∀ b o, b ≠ c → (∀ ps, o ≠ .tbl ps) → H b = some o → H' b = some o
theorem ButT.refl (c : Addr) (H : Hp) : ButT c H H := fun _ _ _ _ h => h
theorem ButT.trans {c : Addr} {H H1 H2 : Hp} (a : ButT c H H1) (b : ButT c H1 H2) : ButT c H H2 := fun x o n t h => b x o n t (a x o n t h)
theorem ButT.of {c : Addr} {H H' : Hp} (h : Same H H') : ButT c H H' := fun x o _ _ e => h x o e
theorem ButT.but {c : Addr} {H H' : Hp} (h : But c H H') : ButT c H H' := fun x o n _ e => h x o n e
theorem ButT.ext {c : Addr} {H H' : Hp} (h : LamX.ExtN H H') : ButT c H H' := fun x o _ n e => h x o e n
theorem tabs_same {T : List (Addr × Str)} {H H' : Hp} (t : LamX.Tabs T H) (s : Same H H') : LamX.Tabs T H' := t.ext s
theorem tabs_butL {T : List (Addr × Str)} {c : Addr} {xs : List V} {H H' : Hp} (t : LamX.Tabs T H) (hc : H c = some (.lst xs)) (s : But c H H') : LamX.Tabs T H' := fun p hp => by
  obtain ⟨ps, h1, h2, h3⟩ := t p hp
  refine ⟨ps, s _ _ (ne_of h1 hc (by intro z; cases z)) h1, h2, fun pos cv hcv => ?_⟩
  obtain ⟨c', e1, e2⟩ := h3 pos cv hcv
  exact ⟨c', e1, s _ _ (ne_of e2 hc (by intro z; unfold LamX.CodeO at z; cases z)) e2⟩
theorem tabs_tape {T : List (Addr × Str)} {c : Addr} {n : Nat} {H H' : Hp} (t : LamX.Tabs T H) (hc : TapeAt c n H) (s : But c H H') : LamX.Tabs T H' := by
  obtain ⟨x, y, z, h, _⟩ := hc
  exact tabs_butL t h s
theorem tabs_upd {TT : List (Addr × Str)} {H : Hp} {D : Addr} {xs : List V} {o : HO} (t : LamX.Tabs TT H) (h : H D = some (.lst xs)) : LamX.Tabs TT (upd H D o) := tabs_butL t h But.upd
theorem ext_same {H H' : Hp} (s : Same H H') : LamX.ExtN H H' := LamX.ExtN.of s
theorem ext_tup {H H' : Hp} {a : Addr} {xs : List V} (s : LamX.ExtN H H') (h : H a = some (.tup xs)) : H' a = some (.tup xs) := s _ _ h (by intro ps z; cases z)
theorem ext_ins {H H' : Hp} {a C dx : Addr} {fs : List (Str × V)} (s : LamX.ExtN H H') (h : H a = some (.ins C dx fs)) : H' a = some (.ins C dx fs) := s _ _ h (by intro ps z; cases z)
theorem Dr.ext {H H' : Hp} {v : V} {d : PyData} (h : Dr H v d) (s : LamX.ExtN H H') : Dr H' v d := by
  induction h with
  | non => exact .non
  | bl b => exact .bl b
  | int i => exact .int i
  | str x => exact .str x
  | lst h1 h2 h3 ih => exact .lst (s _ _ h1 (by intro ps z; cases z)) h2 ih
  | tup h1 h2 h3 ih => exact .tup (s _ _ h1 (by intro ps z; cases z)) h2 ih
  | dk h1 => exact .dk (s _ _ h1 (by intro ps z; cases z))
theorem PiecesAt.ext {H H' : Hp} {vs : List V} {r : List Pc} (h : PiecesAt H vs r) (s : LamX.ExtN H H') : PiecesAt H' vs r :=
  ⟨h.1, fun i p hp => let ⟨v, hv, t, e, q⟩ := h.2 i p hp; ⟨v, hv, t, e, ext_tup s q⟩⟩
theorem PatAt.ext {C x : Addr} {H H' : Hp} {r : List Pc} (h : PatAt C H x r) (s : LamX.ExtN H H') : PatAt C H' x r := by
  obtain ⟨dx, q, m, f, ws, f1, f2, f3, f4, h1, h2, h3, h4, h5, h6, h7, h8, h9⟩ := h
  exact ⟨dx, q, m, f, ws, f1, f2, f3, f4, ext_ins s h1, ext_tup s h2, h3.ext s, ext_tup s h4, ext_tup s h5, ext_tup s h6, ext_tup s h7, ext_tup s h8, ext_tup s h9⟩
/-! ### promises of what raises -/
def giv (a : Addr) (v : V) (H : Hp) (E : XK) : Prop := ∀ H' dx, Same H H' → H' dx = some (.xd [(Str.ofString "given", v)]) → E (.ref a) (some dx) H'
theorem giv.same {a : Addr} {v : V} {H H' : Hp} {E : XK} (h : giv a v H E) (s : Same H H') : giv a v H' E := fun H2 dx s2 hd => h H2 dx (s.trans s2) hd
def tyPat (K : PySem.W.Frag) (C : Addr) : Prop := ∀ d : PyData, PySem.W.kitOne K (.type (tyN d)) (.ref C) = some false
def IsPat (C : Addr) (H : Hp) (v : V) : Prop := ∃ x dx fs, v = .ref x ∧ H x = some (.ins C dx fs)
theorem PatAt.is {C x : Addr} {H : Hp} {r : List Pc} (h : PatAt C H x r) : IsPat C H (.ref x) := by
  obtain ⟨dx, _, _, _, _, _, _, _, _, h1, _⟩ := h
  exact ⟨x, dx, _, rfl, h1⟩
def spChkPN (K : PySem.W.Frag) (C C0 : Addr) : Sp := fun vs H Q E => ∃ v : V, vs = [v] ∧ ((∃ d, Dq K H v d ∧ giv C0 v H E) ∨ (IsPat C H v ∧ Q .non H))
def spChkRN (K : PySem.W.Frag) (C2 : Addr) : Sp := fun vs H Q E => ∃ (v : V) (d : PyData), vs = [v] ∧ Dq K H v d ∧ (resG d = false → giv C2 v H E) ∧ (resG d = true → Q .non H)
def spMLN (K : PySem.W.Frag) (C C0 : Addr) : Sp := fun vs H _ E => ∃ v u : V, vs = [v, u] ∧ ((∃ d, Dq K H v d ∧ giv C0 v H E) ∨ (IsPat C H v ∧ ∃ d, Dq K H u d ∧ giv C0 u H E))
def spCLN (K : PySem.W.Frag) (aO C C0 C2 : Addr) : Sp := fun vs H Q E => ∃ v u : V, vs = [v, u] ∧ ((∃ d, Dq K H v d ∧ giv C0 v H E) ∨ (∃ x r d, v = .ref x ∧ PatAt C H x r ∧ RowOk r ∧ 1 ≤ r.length ∧ r.length ≤ 8 ∧ Dr H u d ∧ Nd d ∧ (resG d = false → giv C2 u H E) ∧ (resG d = true → ∀ H' z, Same H H' → LimC aO H' z r (prOf d) → Q (.ref z) H')))
section
variable {P : Program} {w : World} {K : PySem.W.Frag} {mg : Str → Option Value} {base : Heap} {tG t1 t2 t3 tC tK tP : Tok} {aO aW aCh Ce J C fP fJ pP gP pq gq gx : Addr} {fdJ fdP fq fx : FuncData} {c : Nat → Addr}
theorem ok_chkpN {f : Addr} {fd : FuncData} (F : Fun K "check_pattern" "check_pattern" s_check_pattern f fd) (T : Txt3 K mg tG t1 t2 t3 aO aW J C) (TE : TxF mg c) (RZ0 : Rz P w K mg base c 0 "given") (I : IsC K C) (kC : tyPat K C) : FnOk P w K mg base (L2N.CX P w) 4 f fd ["value"] (spChkPN K C (c 0)) := by
  refine okN F sc_check_pattern (fun vs H Q E h => ?_) (fun cdv A outer s H vs Q E hr h => ?_)
  · obtain ⟨v, rfl, _⟩ := h
    rfl
  · obtain ⟨v, rfl, h⟩ := h
    refine ⟨_, (pss_one (ps_if (pt_not (pt_val (pe_callB call_isi (by rfl) T.isinstance (by decide +kernel) (pa_cons (pv 0) (pa_cons (pe_glob (v := .ref C) rfl T.mgC rfl) pa_nil))))) (pss_one (ps_raiseX RZ0.m RZ0.ty RZ0.no (hr.mono (by decide)) (by rfl) TE.m0 (pv 0) rfl (L2N.takes_of rfl rfl rfl rfl))) pss_nil)), ?_⟩
    rcases h with ⟨d, hd, k⟩ | ⟨⟨x, dx, fs, rfl, hx⟩, k⟩
    · exact ⟨_, rfl, _, _, _, _, false, rfl, .own C, ty_dq hd, kC d, _, rfl, iteT ⟨_, rfl, fun dd nd => k _ dd (same_upd nd) upd_same⟩⟩
    · exact ⟨_, rfl, _, _, _, _, true, rfl, .own C, .base (.ins hx T.cl I.ca I.cn I.ct I.cm), I.is_, _, rfl, iteF k⟩
theorem ok_chkrN {f : Addr} {fd : FuncData} (F : Fun K "check_resistance" "check_resistance" s_check_resistance f fd) (TE : TxF mg c) (RZ2 : Rz P w K mg base c 2 "given") (D_is_resistance : Df P w K mg base 3 "is_resistance" ["value"] (spResG K)) : FnOk P w K mg base (L2N.CX P w) 5 f fd ["value"] (spChkRN K (c 2)) := by
  refine okN F sc_check_resistance (fun vs H Q E h => ?_) (fun cdv A outer s H vs Q E hr h => ?_)
  · obtain ⟨v, d, rfl, _⟩ := h
    rfl
  · obtain ⟨v, d, rfl, hd, kn, ky⟩ := h
    refine ⟨_, (pss_one (ps_if (pt_not (pt_val (pe_df D_is_resistance (hr.mono (by decide)) (by rfl) (pa_cons (pv 0) pa_nil)))) (pss_one (ps_raiseX RZ2.m RZ2.ty RZ2.no (hr.mono (by decide)) (by rfl) TE.m2 (pv 0) rfl (L2N.takes_of rfl rfl rfl rfl))) pss_nil)), ?_⟩
    refine ⟨_, rfl, v, d, rfl, hd, _, rfl, ?_⟩
    cases hn : resG d with
    | false => exact iteT ⟨_, rfl, fun dd nd => kn hn _ dd (same_upd nd) upd_same⟩
    | true => exact iteF (ky hn)
theorem ok_mlN {f : Addr} {fd : FuncData} (F : Fun K "more_load" "more_load" s_more_load f fd) (D_check_patternN : DfN P w K mg base 4 "check_pattern" ["value"] (spChkPN K C (c 0))) : FnOk P w K mg base (L2N.CX P w) 6 f fd ["pattern", "other"] (spMLN K C (c 0)) := by
  refine okN F sc_more_load (fun vs H Q E h => ?_) (fun cdv A outer s H vs Q E hr h => ?_)
  · obtain ⟨v, u, rfl, _⟩ := h
    rfl
  · obtain ⟨v, u, rfl, h⟩ := h
    refine ⟨_, (pss_cons (ps_expr (pe_dfN D_check_patternN (hr.mono (by decide)) (by rfl) (passN (L2N.takes_of rfl rfl rfl rfl) fun _ _ _ _ h => h) (pa_cons (pv 0) pa_nil)))
      (pss_cons (ps_expr (pe_dfN D_check_patternN (hr.mono (by decide)) (by rfl) (passN (L2N.takes_of rfl rfl rfl rfl) fun _ _ _ _ h => h) (pa_cons (pv 1) pa_nil)))
      pss_never)), ?_⟩
    rcases h with ⟨d, hd, k⟩ | ⟨hp, d, hd, k⟩
    · exact ⟨_, rfl, v, rfl, .inl ⟨d, hd, k⟩⟩
    · exact ⟨_, rfl, v, rfl, .inr ⟨hp, _, rfl, u, rfl, .inl ⟨d, hd, k⟩⟩⟩
theorem ok_cnN {f : Addr} {fd : FuncData} (F : Fun K "certify_never" "certify_never" s_certify_never f fd) (D_more_loadN : DfN P w K mg base 6 "more_load" ["pattern", "other"] (spMLN K C (c 0))) : FnOk P w K mg base (L2N.CX P w) 7 f fd ["pattern", "other"] (spMLN K C (c 0)) := by
  refine okN F sc_certify_never (fun vs H Q E h => ?_) (fun cdv A outer s H vs Q E hr h => ?_)
  · obtain ⟨v, u, rfl, _⟩ := h
    rfl
  · obtain ⟨v, u, rfl, h⟩ := h
    refine ⟨_, (pss_cons (ps_set (i := 2) sc_certify_never.nd rfl (.inl rfl) (pe_dfN D_more_loadN (hr.mono (by decide)) (by rfl) (passN (L2N.takes_of rfl rfl rfl rfl) fun _ _ _ _ h => h) (pa_cons (pv 0) (pa_cons (pv 1) pa_nil))))
      pss_never), ?_⟩
    exact ⟨_, rfl, _, rfl, v, u, rfl, h⟩
theorem ok_clN {f : Addr} {fd : FuncData} (F : Fun K "certify_limit" "certify_limit" s_certify_limit f fd) (T : TxtX K mg w tG t1 t3 tC tK tP aO aW aCh Ce) (T3 : Txt3 K mg tG t1 t2 t3 aO aW J C) (OPi : OwPi P w K mg base C pP gP fdP) (OX : OwX P w K mg base Ce aO gx fx) (OQ : OwQ P w K mg base Ce pq gq fq) (D_check_patternN : DfN P w K mg base 4 "check_pattern" ["value"] (spChkPN K C (c 0))) (D_check_resistanceN : DfN P w K mg base 5 "check_resistance" ["value"] (spChkRN K (c 2))) (D_ladder_limit : Df P w K mg base 7 "ladder_limit" ["matrix"] (spLim aO Ce)) (D_lowest_pair : Df P w K mg base 3 "lowest_pair" ["fraction_or_open"] spLowP) : FnOk P w K mg base (L2N.CX P w) 8 f fd ["pattern", "load"] (spCLN K aO C (c 0) (c 2)) := by
  refine okN F sc_certify_limit (fun vs H Q E h => ?_) (fun cdv A outer s H vs Q E hr h => ?_)
  · obtain ⟨v, u, rfl, _⟩ := h
    rfl
  · obtain ⟨u, v, rfl, h⟩ := h
    have TPC := T3
    refine ⟨_, (pss_cons (ps_expr (pe_dfN D_check_patternN (hr.mono (by decide)) (by rfl) (passN (L2N.takes_of rfl rfl rfl rfl) fun _ _ _ _ h => h) (pa_cons (pv 0) pa_nil)))
      (pss_cons (ps_expr (pe_dfN D_check_resistanceN (hr.mono (by decide)) (by rfl) (passN (L2N.takes_of rfl rfl rfl rfl) fun _ _ _ _ h => h) (pa_cons (pv 1) pa_nil)))
      (pss_cons (ps_set (i := 2) sc_certify_limit.nd rfl (.inl rfl) (pe_df D_ladder_limit (hr.mono (by decide)) (by rfl) (pa_cons (pe_fld (pv 0) rfl) pa_nil)))
      (C8.pss_cut (ps_set (i := 3) sc_certify_limit.nd rfl (.inl rfl) (pe_ifExp (pt_cmpR (op_or2 (op_eqD hr.units) (op_eqOwn OX.e_at OX.e_fn OX.ok OX.b (hr.mono (by decide)))) (pv 2) (pe_glob (v := .ref aO) rfl T.mgO rfl) (nomark _)) (pe_glob (v := .ref aO) rfl T.mgO rfl) (pe_prop (pv 2) T.clE OQ.pr OQ.ok (hr.mono (by decide)) OQ.b .nil pass0 rfl)))
      (pss_one (ps_ret (pe_tup (pa_cons (pe_tup (pa_cons pe_str (pa_cons (pe_prop (pv 0) TPC.cl OPi.pr OPi.ok (hr.mono (by decide)) OPi.b .nil pass0 rfl) (pa_cons (pe_df D_lowest_pair (hr.mono (by decide)) (by rfl) (pa_cons (pv 1) pa_nil)) (pa_cons (pv 3) pa_nil))))) (pa_cons (pe_tup pa_nil) pa_nil))))))))), ?_⟩
    rcases h with ⟨d, hd, k⟩ | ⟨x, r, d, rfl, hx, ok, l1, l8, hd, nd, kn, k⟩
    · exact ⟨_, rfl, u, rfl, .inl ⟨d, hd, k⟩⟩
    obtain ⟨dx, q0, mx0, _, _, _, _, _, _, hix, _, _, hm, _⟩ := id hx
    refine ⟨_, rfl, _, rfl, .inr ⟨hx.is, ?_⟩⟩
    refine ⟨_, rfl, v, d, rfl, hd.dq nd, kn, fun hn => ?_⟩
    replace k := k hn
    refine ⟨_, rfl, x, C, dx, _, _, rfl, hix, T3.cl, T3.nMat, lkM _ _ _, mx0, r, rfl, hm, ok, l8, fun H1 lv s1 hlv => ?_⟩
    have dpo : ∀ {HH : Hp}, Dp K HH (.ref aO) (.tuple [.int 1, .int 0]) := fun {HH} => .tup (.inr T.opn) (.cons (.int _) (.cons (.int _) .nil))
    refine ⟨fun σ' H' => ∃ tv, σ' = [some (.ref x), some v, some lv, some tv] ∧ Same H H' ∧ LtAt aO H' tv r, ?_, ?_⟩
    · refine ⟨_, rfl, ?_⟩
      rcases hlv with ⟨c0, rfl⟩ | ⟨cn, y, rfl, hy⟩
      · refine .inl ⟨_, _, dpo, dpo, rfl, rfl, _, rfl, ite2 (fun _ => ?_) (fun e => absurd (SeqAt.eqv_refl _ (by decide +kernel)) e)⟩
        exact ⟨_, rfl, s1, .inl ⟨c0, rfl⟩⟩
      · obtain ⟨dy, qy, hiy, hqy⟩ := id hy
        refine .inr ⟨y, dy, _, _, rfl, hiy, ty_dp (d := .tuple [.int 1, .int 0]) dpo, OX.nf, y, dy, _, rfl, hiy, _, rfl, ite2 (fun e => absurd e (by decide)) (fun _ => ?_)⟩
        refine ⟨_, rfl, y, dy, _, rfl, hiy, y, dy, qy, rfl, hiy, ?_⟩
        exact ⟨_, rfl, s1, .inr ⟨cn, qy, rfl, hqy⟩⟩
    rintro σ1 H2 ⟨tv, rfl, s2, ht⟩
    refine ⟨_, rfl, x, dx, _, rfl, s2 _ _ hix, x, r, rfl, hx.same s2, fun q1 ws1 hq1 hw1 => ⟨_, rfl, ?_⟩⟩
    obtain ⟨li, lp2, ls1, ls2⟩ := load_in (hd.mono s2) hn
    refine ⟨v, prOf d, rfl, li, lp2, ls1, ls2, fun H3 lp s3 nlp hlp => ?_⟩
    refine ⟨_, rfl, (by show 4 ≤ sizeLine; decide), fun cl ncl => ⟨(by show 0 ≤ sizeLine; decide), fun em nem => ⟨(by show 2 ≤ sizeLine; decide), fun z nz => ?_⟩⟩⟩
    have s4 := same_upd (o := .tup [.str (Str.ofString "limit"), .ref q1, .ref lp, tv]) ncl
    have s5 := same_upd (o := .tup []) nem
    have s6 := same_upd (o := .tup [.ref cl, .ref em]) nz
    have s46 := (s4.trans s5).trans s6
    exact k _ z (s2.trans (s3.trans s46)) ⟨cl, em, lp, .ref q1, tv, upd_same, s6 _ _ upd_same, (s5.trans s6) _ _ upd_same, RowT.same ⟨q1, ws1, rfl, hq1, hw1, ok, l1, l8⟩ (s3.trans s46), s46 _ _ hlp, ht.same (s3.trans s46)⟩
end
end RL

set_option maxHeartbeats 1000000
/-! An own unary operator; `x in o` by an own __contains__; C(*y). -/
namespace RL
open PySem L2 PySem.Spec PyProof.Rows PySem.W
section
variable {X : Cx} {k : Nat} {ps : List Str} {sp : Sp} {C g : Addr} {fd : FuncData}
def rUnOwn (C : Addr) (sp : Sp) : V → Hp → VK → Prop := fun x H Q => ∃ a dx fs, x = .ref a ∧ H a = some (.ins C dx fs) ∧ sp [x] H Q E0
def rInOwn (C : Addr) (sp : Sp) : R2 := fun x y H Q => ∃ a dx fs, y = .ref a ∧ H a = some (.ins C dx fs) ∧ sp [y, x] H (fun z H' => ∃ b : Bool, z = .bl b ∧ Q (.bl b) H') E0
end
section
variable {X : Cx} {CX : CXT} {k : Nat} {f C : Addr} {sp : Sp} {E : XK} {x : Str} {e : Expr} {te : TE} {p pos sp_ : Pos}
end
end RL

set_option maxHeartbeats 4000000
namespace RL
open PySem L2 PySem.Spec PyProof.Rows
def oddL : List PyData := [.none, .bool true, .str (Str.ofString "rail 1"), .tuple [.tuple [.str (Str.ofString "rail"), .int 1]], .int (-1), .tuple [.int 2, .int 0], .tuple [.int 1, .int 0, .int 0], .int (10 ^ Int.toNat 12 + 1), .list [], .dict [], .tuple [.int 1, .int 1], .int 0, .str (Str.ofString "open")]
def goodO (d : PyData) : Bool := (!d.hasDict || isNilD d) && (d.showable && (decide (d.depth ≤ 40) && (decide (d.shown.length ≤ 1000) && PyData.strOk d.shown)))
theorem odd_all : oddL.all goodO = true := by decide +kernel
structure GoodO (d : PyData) : Prop where
  n : Nd d
  s : d.showable = true
  p : d.depth ≤ 40
  l : d.shown.length ≤ sizeLine
  u : PyData.strOk d.shown = true
theorem odd_good {d : PyData} (h : d ∈ oddL) : GoodO d := by
  have g := List.all_eq_true.mp odd_all d h
  unfold goodO at g
  simp only [Bool.and_eq_true, Bool.or_eq_true, decide_eq_true_eq, Bool.not_eq_true'] at g
  obtain ⟨g1, g2, g3, g4, g5⟩ := g
  refine ⟨g1.imp id nil_of, g2, g3, ?_, g5⟩
  rw [sizeLine_eq]
  omega
def erD (w x : Str) : PyData := .tuple [.str w, .str x]
theorem er_eqv (w x : Str) : PyData.eqv (erD w x) (erD w x) = true := by simp [erD, PyData.eqv, PyData.eqvAll]
theorem er_not (w x : Str) : ¬ (!PyData.eqv (erD w x) (erD w x)) = true := by
  rw [er_eqv]
  decide
theorem er_sh {w x : Str} (h : PyData.strOk w = true) (k : PyData.strOk x = true) : SeqAt.shaped (erD w x) = true := by
  unfold SeqAt.shaped
  simp [erD, PyData.canLay0, PyData.canLayAll0, PyData.depth, PyData.depthAll, h, k]
theorem er_dp {K : PySem.W.Frag} {H : Hp} {a : Addr} {w x : Str} (h : H a = some (.tup [.str w, .str x])) : Dp K H (.ref a) (erD w x) := .tup (SqT.of h) (.cons (.str _) (.cons (.str _) .nil))
theorem ok_w0 : PyData.strOk (wordF 0) = true := by decide +kernel
theorem ok_w2 : PyData.strOk (wordF 2) = true := by decide +kernel
theorem fld0 : fldF 0 = Str.ofString "given" := by decide +kernel
theorem fld2 : fldF 2 = Str.ofString "given" := by decide +kernel
def spRef (TT : List (Addr × Str)) : Sp := fun vs H Q _ => ∃ (c : Addr) (n : Nat), vs = [.ref c] ∧ TapeAt c n H ∧ n + 40 ≤ 1000000 ∧ LamX.Tabs TT H ∧ ∀ H', ButT c H H' → LamX.Tabs TT H' → Q (.bl true) H'
section
variable {P : Program} {w : World} {K : PySem.W.Frag} {mg : Str → Option Value} {base : Heap} {tG t1 t2 t3 tC tK tP : Tok} {aO aW aCh Ce J C : Addr} {c : Nat → Addr}
abbrev s_law_refused_right : Stmt := top 129
theorem sc_law_refused_right : FnScope ["_law_tape", "_law_odd", "_law_one", "_law_two", "_law_made", "_law_told_here"] ["_law_tape"] (defScope s_law_refused_right) := ⟨rfl, rfl, rfl, by decide +kernel, rfl, by decide +kernel, by decide +kernel⟩

theorem ok_ref {f cA PA : Addr} {fd : FuncData} {TT : List (Addr × Str)} (F : FunC K "_law_refused_right" "_law_refused_right" s_law_refused_right f fd cA) (T : TxtX K mg w tG t1 t3 tC tK tP aO aW aCh Ce) (CG : ToldD P w K mg base c 1 (rRp K)) (EF0 : EF K c (c 0) 0) (EF2 : EF K c (c 2) 2)
    (TBR : LamX.TabB base mg cA PA) (TMR : (PA, ("_law_refused_right" : Str) ++ ".<locals>.<lambda>") ∈ TT) (TUR : ∀ p ∈ TT, p.1 = PA → p.2 = ("_law_refused_right" : Str) ++ ".<locals>.<lambda>")
    (D_law_pick : Df P w K mg base 1 "_law_pick" ["_law_tape", "_law_many"] spDraw) (D_law_anyrow : Df P w K mg base 2 "_law_anyrow" ["_law_tape", "_law_longest"] spAnyRow) (D_law_pat : Df P w K mg base 8 "_law_pat" ["_law_row"] (spPat C)) (D_law_is_load : Df P w K mg base 1 "_law_is_load" ["_law_thing"] spIsLoad)
    (D_certify_neverN : DfN P w K mg base 7 "certify_never" ["pattern", "other"] (spMLN K C (c 0))) (D_certify_neverNK : DfNK P w K mg base 7 "certify_never" "other" "pattern" (spMLN K C (c 0))) (D_certify_limitN : DfN P w K mg base 8 "certify_limit" ["pattern", "load"] (spCLN K aO C (c 0) (c 2))) (D_certify_limitNK : DfNK P w K mg base 8 "certify_limit" "load" "pattern" (spCLN K aO C (c 0) (c 2))) : FnG P w K mg base 12 f fd ["_law_tape"] (spRef TT) := by
  refine okGC F sc_law_refused_right (fun vs H Q E h => ?_) (fun A outer s H vs Q E hg hr h => ?_)
  · obtain ⟨c, n, rfl, _⟩ := h
    rfl
  · obtain ⟨cu, n, rfl, ht, hn, hT, k⟩ := h
    refine ⟨_, (C8.pss_cut (ps_set (i := 1) sc_law_refused_right.nd rfl (.inl rfl) (pd_lst (pds_cons pd_non (pds_cons pd_bl (pds_cons pd_str (pds_cons (pd_tup (pds_cons (pd_tup (pds_cons pd_str (pds_cons pd_int pds_nil))) pds_nil)) (pds_cons (pd_neg pd_int) (pds_cons (pd_tup (pds_cons pd_int (pds_cons pd_int pds_nil))) (pds_cons (pd_tup (pds_cons pd_int (pds_cons pd_int (pds_cons pd_int pds_nil)))) (pds_cons (pd_add (pd_pow pd_int pd_int) pd_int) (pds_cons (pd_lst pds_nil) (pds_cons pd_dict (pds_cons (pd_tup (pds_cons pd_int (pds_cons pd_int pds_nil))) (pds_cons pd_int (pds_cons pd_str pds_nil)))))))))))))))
      (C8.pss_cut (ps_asg (pe_tup (pa_cons (pe_ix ix_list (pv 1) (pe_df D_law_pick (hr.mono (by decide)) (by rfl) (pa_cons (pv 0) (pa_cons pe_int pa_nil))) (fun _ _ => rfl)) (pa_cons (pe_ix ix_list (pv 1) (pe_df D_law_pick (hr.mono (by decide)) (by rfl) (pa_cons (pv 0) (pa_cons pe_int pa_nil))) (fun _ _ => rfl)) (pa_cons (pe_df D_law_pat (hr.mono (by decide)) (by rfl) (pa_cons (pe_df D_law_anyrow (hr.mono (by decide)) (by rfl) (pa_cons (pv 0) (pa_cons pe_int pa_nil))) pa_nil)) pa_nil)))) (pg_tup rfl (pgs_cons (pg_name (i := 2) sc_law_refused_right.nd rfl (.inr rfl)) (pgs_cons (pg_name (i := 3) sc_law_refused_right.nd rfl (.inr rfl)) (pgs_cons (pg_name (i := 4) sc_law_refused_right.nd rfl (.inr rfl)) pgs_nil)))))
      (C8.pss_cut (ps_if (pt_cmpR (op_neD hr.units) (pe_told (k := 9) CG hg (by decide) (by decide) TBR rfl TMR TUR (hr.mono (by decide)) rfl (fun A2 outer2 s2 H2 E2 f2 c2 hg2 hr2 => (pe_dfN D_certify_neverN (hr2.mono (by decide)) (by rfl) (passN lamN_takes fun _ _ _ _ h => h) (pa_cons (pv 2) (pa_cons (pv 3) pa_nil))))) (pe_tup (pa_cons pe_str (pa_cons (pe_callB (cr_rpK (K := K) hg hr.units) (by rfl) T.repr (by decide +kernel) (pa_cons (pv 2) pa_nil)) pa_nil))) (nomark _)) (pss_one (ps_ret pe_bl)) pss_nil)
      (C8.pss_cut (ps_if (pt_cmpR (op_neD hr.units) (pe_told (k := 9) CG hg (by decide) (by decide) TBR rfl TMR TUR (hr.mono (by decide)) rfl (fun A2 outer2 s2 H2 E2 f2 c2 hg2 hr2 => (pe_dfNK D_certify_neverNK (hr2.mono (by decide)) (by rfl) (passN lamN_takes fun _ _ _ _ h => h) (pk_cons (pv 3) (pk_cons (pv 4) pk_nil))))) (pe_tup (pa_cons pe_str (pa_cons (pe_callB (cr_rpK (K := K) hg hr.units) (by rfl) T.repr (by decide +kernel) (pa_cons (pv 3) pa_nil)) pa_nil))) (nomark _)) (pss_one (ps_ret pe_bl)) pss_nil)
      (C8.pss_cut (ps_if (pt_cmpR (op_neD hr.units) (pe_told (k := 9) CG hg (by decide) (by decide) TBR rfl TMR TUR (hr.mono (by decide)) rfl (fun A2 outer2 s2 H2 E2 f2 c2 hg2 hr2 => (pe_dfN D_certify_limitN (hr2.mono (by decide)) (by rfl) (passN lamN_takes fun _ _ _ _ h => h) (pa_cons (pv 2) (pa_cons (pv 3) pa_nil))))) (pe_tup (pa_cons pe_str (pa_cons (pe_callB (cr_rpK (K := K) hg hr.units) (by rfl) T.repr (by decide +kernel) (pa_cons (pv 2) pa_nil)) pa_nil))) (nomark _)) (pss_one (ps_ret pe_bl)) pss_nil)
      (C8.pss_cut (ps_set (i := 5) sc_law_refused_right.nd rfl (.inl rfl) (pe_told (k := 9) CG hg (by decide) (by decide) TBR rfl TMR TUR (hr.mono (by decide)) rfl (fun A2 outer2 s2 H2 E2 f2 c2 hg2 hr2 => (pe_dfNK D_certify_limitNK (hr2.mono (by decide)) (by rfl) (passN lamN_takes fun _ _ _ _ h => h) (pk_cons (pv 3) (pk_cons (pv 4) pk_nil))))))
      (pss_one (ps_ret (pe_ifExp (pt_val (pe_df D_law_is_load (hr.mono (by decide)) (by rfl) (pa_cons (pv 3) pa_nil))) (pe_cmpR op_eq (pe_ix ix_tup (pv 5) pe_int (fun _ _ => rfl)) pe_str (nomark _)) (pe_cmpR (op_eqD hr.units) (pv 5) (pe_tup (pa_cons pe_str (pa_cons (pe_callB (cr_rpK (K := K) hg hr.units) (by rfl) T.repr (by decide +kernel) (pa_cons (pv 3) pa_nil)) pa_nil))) (nomark _))))))))))), ?_⟩
    refine ⟨fun σ' H' => ∃ l ls, σ' = [some (.ref cu), some (.ref l), none, none, none, none] ∧ Same H H' ∧ l ≠ cu ∧ H' l = some (.lst ls) ∧ Dhs cu H' ls oddL, ?_, ?_⟩
    · intro H1 v s1 hv
      obtain ⟨l, ls, rfl, lc, hl, hls⟩ := lit_ix ht hv
      exact ⟨l, ls, rfl, s1, lc, hl, hls⟩
    rintro σ1 H1 ⟨l, ls, rfl, s1, lc, hl, hls⟩
    have tp1 := ht.same s1
    have pk : ∀ y : Int, 0 ≤ y → y < 13 → ∃ d v, d ∈ oddL ∧ ls[y.toNat]? = some v ∧ Dh cu H1 v d := fun y y0 y1 => by
      have hy : y.toNat < oddL.length := by show y.toNat < 13; omega
      obtain ⟨v, hv, hd⟩ := Drs.at_ hls (List.getElem?_eq_getElem hy)
      exact ⟨_, v, List.getElem_mem hy, hv, hd⟩
    refine ⟨fun σ' H' => ∃ v u x d e r, σ' = [some (.ref cu), some (.ref l), some v, some u, some (.ref x), none] ∧ But cu H1 H' ∧ Dr H' v d ∧ d ∈ oddL ∧ Dr H' u e ∧ e ∈ oddL ∧ PatAt C H' x r ∧ RowOk r ∧ 1 ≤ r.length ∧ r.length ≤ 8, ?_, ?_⟩
    · refine ⟨_, rfl, _, rfl, cu, n, 13, rfl, tp1, by omega, by decide, sm_p (by decide) (by decide), fun H2 y b2 t2 y0 y1 => ?_⟩
      obtain ⟨d, v, hd, hyv, hv⟩ := pk y y0 y1
      have ex : y = (y.toNat : Int) := (Int.toNat_of_nonneg y0).symm
      rw [ex]
      refine ⟨l, _, _, _, rfl, rfl, SqL.of (b2 _ _ lc hl), atI_nat (j := y.toNat) hyv, ?_⟩
      refine ⟨_, rfl, _, rfl, cu, _, 13, rfl, t2, by omega, by decide, sm_p (by decide) (by decide), fun H3 z b3 t3 z0 z1 => ?_⟩
      obtain ⟨e, u, he, hzv, hu⟩ := pk z z0 z1
      have ez : z = (z.toNat : Int) := (Int.toNat_of_nonneg z0).symm
      rw [ez]
      have b13 := b2.trans b3
      refine ⟨l, _, _, _, rfl, rfl, SqL.of (b13 _ _ lc hl), atI_nat (j := z.toNat) hzv, ?_⟩
      refine ⟨_, rfl, cu, _, 4, rfl, t3, by omega, by decide, by decide, fun H4 rv rd b4 t4 hrd hrg => ?_⟩
      have hrow := row_at hrd.dr hrg
      obtain ⟨_, _, _, _, _, ok, l1, l8⟩ := id hrow
      refine ⟨rv, rowOf rd, rfl, hrow, fun H5 x s5 nx hx => ⟨(by show 3 ≤ sizeLine; decide), fun p np => ?_⟩⟩
      have sp := same_upd (o := .tup [v, u, .ref x]) np
      have b15 := (b13.trans b4).trans (.of (s5.trans sp))
      refine ⟨p, _, rfl, SqT.of upd_same, rfl, _, _, rfl, _, _, rfl, _, _, rfl, rfl, ?_⟩
      exact ⟨v, u, x, d, e, rowOf rd, rfl, b15, (hv.but b15).dr, hd, (hu.but b15).dr, he, hx.same sp, ok, l1, l8⟩
    rintro σ2 H2 ⟨v, u, x, d, e, r, rfl, b2, hv, hd, hu, he, hx, ok, l1, l8⟩
    have T2 := tabs_tape (tabs_same hT s1) tp1 b2
    have gd := odd_good hd
    have ge := odd_good he
    have k2 : ∀ H', LamX.ExtN H2 H' → LamX.Tabs TT H' → Q (.bl true) H' := fun H' x t => k H' ((ButT.of s1).trans ((ButT.but b2).trans (.ext x))) t
    clear k hls pk hl tp1 ht hT b2 s1
    -- the first
    refine ⟨fun σ' H' => σ' = [some (.ref cu), some (.ref l), some v, some u, some (.ref x), none] ∧ LamX.ExtN H2 H' ∧ LamX.Tabs TT H', ?_, ?_⟩
    · refine ⟨T2, fun H3 x3 t3 => ?_⟩
      have hv3 := hv.ext x3
      refine ⟨_, rfl, _, rfl, v, u, rfl, .inl ⟨d, hv3.dq gd.n, fun H4 dx s4 hdx => ?_⟩⟩
      refine ⟨c 0, 0, dx, v, d, rfl, EF0, rfl, (by rw [fld0]; exact hdx), (hv3.mono s4).dq gd.n, gd.s, gd.p, gd.l, fun H5 t s5 ht5 => ?_⟩
      have s45 := s4.trans s5
      refine ⟨_, rfl, v, d, rfl, (hv3.mono s45).dq gd.n, gd.s, gd.p, gd.l, (by show 2 ≤ sizeLine; decide), fun q nq => ?_⟩
      have sq := same_upd (o := .tup [.str (wordF 0), .str d.shown]) nq
      refine ⟨erD (wordF 0) d.shown, erD (wordF 0) d.shown, er_dp (sq _ _ ht5), er_dp upd_same, er_sh ok_w0 gd.u, er_sh ok_w0 gd.u, _, rfl, ite2 (fun z => absurd z (er_not _ _)) (fun _ => ⟨rfl, x3.trans (ext_same (s45.trans sq)), tabs_same t3 (s45.trans sq)⟩)⟩
    rintro σ3 H3 ⟨rfl, x3, t3⟩
    -- the second
    refine ⟨fun σ' H' => σ' = [some (.ref cu), some (.ref l), some v, some u, some (.ref x), none] ∧ LamX.ExtN H2 H' ∧ LamX.Tabs TT H', ?_, ?_⟩
    · refine ⟨t3, fun H4 x4 t4 => ?_⟩
      have x24 := x3.trans x4
      have hu4 := hu.ext x24
      refine ⟨_, rfl, _, rfl, .ref x, u, rfl, .inr ⟨(hx.ext x24).is, e, hu4.dq ge.n, fun H5 dx s5 hdx => ?_⟩⟩
      refine ⟨c 0, 0, dx, u, e, rfl, EF0, rfl, (by rw [fld0]; exact hdx), (hu4.mono s5).dq ge.n, ge.s, ge.p, ge.l, fun H6 t s6 ht6 => ?_⟩
      have s56 := s5.trans s6
      refine ⟨_, rfl, u, e, rfl, (hu4.mono s56).dq ge.n, ge.s, ge.p, ge.l, (by show 2 ≤ sizeLine; decide), fun q nq => ?_⟩
      have sq := same_upd (o := .tup [.str (wordF 0), .str e.shown]) nq
      refine ⟨erD (wordF 0) e.shown, erD (wordF 0) e.shown, er_dp (sq _ _ ht6), er_dp upd_same, er_sh ok_w0 ge.u, er_sh ok_w0 ge.u, _, rfl, ite2 (fun z => absurd z (er_not _ _)) (fun _ => ⟨rfl, x24.trans (ext_same (s56.trans sq)), tabs_same t4 (s56.trans sq)⟩)⟩
    clear x3 t3
    rintro σ3 H3 ⟨rfl, x3, t3⟩
    -- the third
    refine ⟨fun σ' H' => σ' = [some (.ref cu), some (.ref l), some v, some u, some (.ref x), none] ∧ LamX.ExtN H2 H' ∧ LamX.Tabs TT H', ?_, ?_⟩
    · refine ⟨t3, fun H4 x4 t4 => ?_⟩
      have x24 := x3.trans x4
      have hv4 := hv.ext x24
      refine ⟨_, rfl, _, rfl, v, u, rfl, .inl ⟨d, hv4.dq gd.n, fun H5 dx s5 hdx => ?_⟩⟩
      refine ⟨c 0, 0, dx, v, d, rfl, EF0, rfl, (by rw [fld0]; exact hdx), (hv4.mono s5).dq gd.n, gd.s, gd.p, gd.l, fun H6 t s6 ht6 => ?_⟩
      have s56 := s5.trans s6
      refine ⟨_, rfl, v, d, rfl, (hv4.mono s56).dq gd.n, gd.s, gd.p, gd.l, (by show 2 ≤ sizeLine; decide), fun q nq => ?_⟩
      have sq := same_upd (o := .tup [.str (wordF 0), .str d.shown]) nq
      refine ⟨erD (wordF 0) d.shown, erD (wordF 0) d.shown, er_dp (sq _ _ ht6), er_dp upd_same, er_sh ok_w0 gd.u, er_sh ok_w0 gd.u, _, rfl, ite2 (fun z => absurd z (er_not _ _)) (fun _ => ⟨rfl, x24.trans (ext_same (s56.trans sq)), tabs_same t4 (s56.trans sq)⟩)⟩
    clear x3 t3
    rintro σ3 H3 ⟨rfl, x3, t3⟩
    -- the fourth
    refine ⟨fun σ' H' => ∃ t, σ' = [some (.ref cu), some (.ref l), some v, some u, some (.ref x), some (.ref t)] ∧ LamX.ExtN H2 H' ∧ LamX.Tabs TT H' ∧ ((resG e = true ∧ ∃ y, H' t = some (.tup [.str (Str.ofString "told"), .str y])) ∨ (resG e = false ∧ H' t = some (.tup [.str (wordF 2), .str e.shown]))), ?_, ?_⟩
    · refine ⟨t3, fun H4 x4 t4 => ?_⟩
      have x24 := x3.trans x4
      have hu4 := hu.ext x24
      refine ⟨_, rfl, _, rfl, .ref x, u, rfl, .inr ⟨x, r, e, rfl, hx.ext x24, ok, l1, l8, hu4, ge.n, fun hn H5 dx s5 hdx => ?_, fun hy H5 z s5 hz => ?_⟩⟩
      · refine ⟨c 2, 2, dx, u, e, rfl, EF2, rfl, (by rw [fld2]; exact hdx), (hu4.mono s5).dq ge.n, ge.s, ge.p, ge.l, fun H6 t s6 ht6 => ?_⟩
        exact ⟨t, rfl, x24.trans (ext_same (s5.trans s6)), tabs_same t4 (s5.trans s6), .inr ⟨hn, ht6⟩⟩
      · obtain ⟨cl, em, lp, q, tv, hz, hem, hcl, g, hlp, hlt⟩ := hz
        obtain ⟨hnum, sd1, sd2⟩ := res_num hy
        have lsm := low_sm (num_pos hnum) sd1 sd2
        have Sh := lim_shows (e := low (prOf e)) ok l8 (lsm.1.mono (by decide)) (lsm.2.mono (by decide)) (lim_tame ok l8)
        refine ⟨.ref z, limC r (low (prOf e)), rfl, .dp (dp_lim hz hem hcl g (SqT.of hlp) (hlt.dp (.inr T.opn))) Sh.n, Sh.s, Sh.p, Sh.l, (by show 2 ≤ sizeLine; decide), fun t nt => ?_⟩
        have st := same_upd (o := .tup [.str (Str.ofString "told"), .str (limC r (low (prOf e))).shown]) nt
        exact ⟨t, rfl, x24.trans (ext_same (s5.trans st)), tabs_same t4 (s5.trans st), .inl ⟨hy, _, upd_same⟩⟩
    clear x3 t3
    rintro σ4 H4 ⟨t, rfl, x4, t4, ho⟩
    have hu4 := hu.ext x4
    refine ⟨_, rfl, u, e, rfl, hu4, ge.n, fun H5 s5 => ⟨_, rfl, ?_⟩⟩
    rcases ho with ⟨hy, y, h⟩ | ⟨hn, h⟩
    · rw [hy]
      refine iteT ⟨_, rfl, t, _, _, _, rfl, rfl, SqT.of (s5 _ _ h), atI_nat (j := 0) rfl, rfl, ?_⟩
      rw [decide_eq_true rfl]
      exact k2 _ (x4.trans (ext_same s5)) (tabs_same t4 s5)
    · rw [hn]
      refine iteF ⟨_, rfl, _, rfl, u, e, rfl, (hu4.mono s5).dq ge.n, ge.s, ge.p, ge.l, (by show 2 ≤ sizeLine; decide), fun q nq => ?_⟩
      have sq := same_upd (o := .tup [.str (wordF 2), .str e.shown]) nq
      refine ⟨erD (wordF 2) e.shown, erD (wordF 2) e.shown, er_dp ((s5.trans sq) _ _ h), er_dp upd_same, er_sh ok_w2 ge.u, er_sh ok_w2 ge.u, ?_⟩
      rw [er_eqv]
      exact k2 _ (x4.trans (ext_same (s5.trans sq))) (tabs_same t4 (s5.trans sq))
end
end RL

set_option maxHeartbeats 4000000
namespace RL
open PySem L2 PySem.Spec PyProof.Rows
def spRight (TT : List (Addr × Str)) : Sp := fun vs H Q _ => ∃ c, vs = [.ref c] ∧ TapeAt c 0 H ∧ LamX.Tabs TT H ∧ ∀ H', ButT c H H' → LamX.Tabs TT H' → Q (.bl true) H'
def spLaw (K : PySem.W.Frag) (TT : List (Addr × Str)) : Sp := fun vs H Q _ => ∃ (a : Addr) (ns : List Int), vs = [.ref a] ∧ SqL K H a (ns.map V.int) ∧ ns.length ≤ 63 ∧ LamX.Tabs TT H ∧ ∀ H', Q (.bl true) H'
theorem seq_butT {K : PySem.W.Frag} {H H' : Hp} {D a : Addr} {xs : List V} (h : SqL K H a xs) (n : H D = none) (b : ButT D H H') : SqL K H' a xs := by
  rcases h with (h | ⟨o, h⟩) | h
  · exact .inl (.inl (b _ _ (ne_of_none h n) (by intro ps z; cases z) h))
  · exact .inl (.inr ⟨o, b _ _ (ne_of_none h n) (by intro ps z; cases z) h⟩)
  · exact .inr h
def RwAt (c : Addr) (H : Hp) (v : V) (d : PyData) : Prop := Dh c H v d ∧ rowG d = true
theorem RwAt.but {c : Addr} {H H' : Hp} {v : V} {d : PyData} (h : RwAt c H v d) (s : But c H H') : RwAt c H' v d := ⟨h.1.but s, h.2⟩
theorem RwAt.row {c : Addr} {H : Hp} {v : V} {d : PyData} (h : RwAt c H v d) : RowT H v (rowOf d) := row_at h.1.dr h.2
section
variable {P : Program} {w : World} {K : PySem.W.Frag} {mg : Str → Option Value} {base : Heap} {tG t1 t2 t3 tC tK tP : Tok} {aO aW aCh Ce J C : Addr} {c : Nat → Addr}
abbrev s_law_right : Stmt := top 130
theorem sc_law_right : FnScope ["_law_tape", "_law_turn", "_law_row", "_law_end", "_law_mate"] ["_law_tape"] (defScope s_law_right) := ⟨rfl, rfl, rfl, by decide +kernel, rfl, by decide +kernel, by decide +kernel⟩

theorem ok_right {f : Addr} {fd : FuncData} {TT : List (Addr × Str)} (F : Fun K "_law_right" "_law_right" s_law_right f fd) (T : TxtX K mg w tG t1 t3 tC tK tP aO aW aCh Ce)
    (D_law_pick : Df P w K mg base 1 "_law_pick" ["_law_tape", "_law_many"] spDraw) (D_law_some_row : Df P w K mg base 3 "_law_some_row" ["_law_tape", "_law_longest"] spSomeRow) (D_law_near : Df P w K mg base 3 "_law_near" ["_law_tape", "_law_row"] spNear) (D_law_crossing : Df P w K mg base 2 "_law_crossing" ["_law_tape"] spCross) (D_law_anyload : Df P w K mg base 2 "_law_anyload" ["_law_tape"] spAnyLoad)
    (D_law_never_right : DfG P w K mg base 10 "_law_never_right" ["_law_row", "_law_mate"] spNevR) (D_law_limit_right : DfG P w K mg base 10 "_law_limit_right" ["_law_row", "_law_start"] spLimR) (D_law_refused_right : DfG P w K mg base 12 "_law_refused_right" ["_law_tape"] (spRef TT)) : FnG P w K mg base 13 f fd ["_law_tape"] (spRight TT) := by
  refine okG F sc_law_right (fun vs H Q E h => ?_) (fun cdv A outer s H vs Q E hg hr h => ?_)
  · obtain ⟨c, rfl, _⟩ := h
    rfl
  · obtain ⟨cu, rfl, ht, hT, k⟩ := h
    refine ⟨_, (pss_cons (ps_for PassesOwn.never rfl (pi_range1 rfl T.range (pa_cons pe_int pa_nil)) (pg_name (i := 1) sc_law_right.nd rfl (.inl rfl)) (C8.pss_cut (ps_asg (pe_df D_law_some_row (hr.mono (by decide)) (by rfl) (pa_cons (pv 0) (pa_cons pe_int pa_nil))) (pg_tup rfl (pgs_cons (pg_name (i := 2) sc_law_right.nd rfl (.inl rfl)) (pgs_cons (pg_name (i := 3) sc_law_right.nd rfl (.inl rfl)) pgs_nil))))
      (C8.pss_cut (ps_set (i := 4) sc_law_right.nd rfl (.inl rfl) (pe_df D_law_near (hr.mono (by decide)) (by rfl) (pa_cons (pv 0) (pa_cons (pv 2) pa_nil))))
      (C8.pss_cut (ps_if (pt_cmpR op_eq (pe_df D_law_pick (hr.mono (by decide)) (by rfl) (pa_cons (pv 0) (pa_cons pe_int pa_nil))) pe_int (nomark _)) (pss_cons (ps_asg (pe_df D_law_crossing (hr.mono (by decide)) (by rfl) (pa_cons (pv 0) pa_nil)) (pg_tup rfl (pgs_cons (pg_name (i := 2) sc_law_right.nd rfl (.inl rfl)) (pgs_cons (pg_name (i := 4) sc_law_right.nd rfl (.inl rfl)) pgs_nil))))
      (pss_one (ps_set (i := 3) sc_law_right.nd rfl (.inl rfl) pe_non))) pss_nil)
      (C8.pss_cut (ps_if (PW.pt (pw_or (pt_not (pt_val (pe_dfG D_law_never_right hg (hr.mono (by decide)) (by rfl) (pa_cons (pv 2) (pa_cons (pv 4) pa_nil))))) (pw_or1 (pt_not (pt_val (pe_dfG D_law_never_right hg (hr.mono (by decide)) (by rfl) (pa_cons (pv 4) (pa_cons (pv 2) pa_nil)))))))) (pss_one (ps_ret pe_bl)) pss_nil)
      (pss_one (ps_if (PW.pt (pw_or (pt_not (pt_val (pe_dfG D_law_limit_right hg (hr.mono (by decide)) (by rfl) (pa_cons (pv 2) (pa_cons (pe_df D_law_anyload (hr.mono (by decide)) (by rfl) (pa_cons (pv 0) pa_nil)) pa_nil))))) (pw_or1 (pt_not (pt_val (pe_dfG D_law_limit_right hg (hr.mono (by decide)) (by rfl) (pa_cons (pv 4) (pa_cons (pe_ifExp (pt_cmpR op_isN (pv 3) pe_non (nomark _)) pe_int (pv 3)) pa_nil)))))))) (pss_one (ps_ret pe_bl)) pss_nil)))))))
      (pss_one (ps_ret (pe_dfG D_law_refused_right hg (hr.mono (by decide)) (by rfl) (pa_cons (pv 0) pa_nil))))), ?_⟩
    refine ⟨8, rfl, by decide, by decide, ?_⟩
    refine for_range (lo := 0) (n := Int.toNat 8) (fun i σ H' => (∃ v1 v2 v3 v4, σ = [some (.ref cu), v1, v2, v3, v4]) ∧ But cu H H' ∧ TapeAt cu (80 * i) H') ⟨⟨none, none, none, none, rfl⟩, fun _ _ _ h => h, ht⟩ ?_ ?_
    · rintro i σ H1 hi ⟨⟨v1, v2, v3, v4, rfl⟩, b1, t1⟩
      have hi8 : i < 8 := hi
      refine ⟨fun σ' H' => ∃ rv ev rd, σ' = [some (.ref cu), some (.int (0 + i)), some rv, some ev, v4] ∧ But cu H H' ∧ TapeAt cu (80 * i + 20) H' ∧ RwAt cu H' rv rd ∧ lnD rd ≤ 5 ∧ EndV ev, ?_, ?_⟩
      · refine ⟨_, rfl, cu, _, 5, rfl, t1, by omega, by decide, by decide, fun H2 p v d ev b2 t2 hp hd hg' hl he => ?_⟩
        exact ⟨p, _, rfl, SqT.of hp, rfl, _, _, rfl, _, _, rfl, rfl, v, ev, d, rfl, b1.trans b2, t2, ⟨hd, hg'⟩, by omega, he⟩
      rintro σ2 H2 ⟨rv, ev, rd, rfl, b2, t2, hr2, hl2, he⟩
      refine ⟨fun σ' H' => ∃ mv md, σ' = [some (.ref cu), some (.int (0 + i)), some rv, some ev, some mv] ∧ But cu H H' ∧ TapeAt cu (80 * i + 60) H' ∧ RwAt cu H' rv rd ∧ RwAt cu H' mv md, ?_, ?_⟩
      · refine ⟨_, rfl, _, rfl, cu, _, rv, rd, rfl, t2, by omega, hr2.1, hr2.2, hl2, fun H3 mv md b3 t3 hm hmg => ?_⟩
        exact ⟨mv, md, rfl, b2.trans b3, t3, hr2.but b3, ⟨hm, hmg⟩⟩
      clear b1 t1 b2 t2 hr2 hl2
      rintro σ3 H3 ⟨mv, md, rfl, b3, t3, hr3, hm3⟩
      refine ⟨fun σ' H' => ∃ rv ev mv rd md, σ' = [some (.ref cu), some (.int (0 + i)), some rv, some ev, some mv] ∧ But cu H H' ∧ TapeAt cu (80 * i + 64) H' ∧ RwAt cu H' rv rd ∧ RwAt cu H' mv md ∧ EndV ev, ?_, ?_⟩
      · refine ⟨_, rfl, cu, _, 4, rfl, t3, by omega, by decide, sm_p (by decide) (by decide), fun H4 y b4 t4 y0 y1 => ?_⟩
        refine ⟨rfl, _, rfl, ite2 (fun _ => ?_) (fun _ => ?_)⟩
        · refine ⟨_, rfl, cu, _, rfl, t4, by omega, fun H5 p v u d e b5 t5 hp hd hdg he' heg => ?_⟩
          exact ⟨p, _, rfl, SqT.of hp, rfl, _, _, rfl, _, _, rfl, rfl, v, .non, u, d, e, rfl, (b3.trans b4).trans b5, t5.le (by omega), ⟨hd, hdg⟩, ⟨he', heg⟩, .inl rfl⟩
        · exact ⟨rv, ev, mv, rd, md, rfl, b3.trans b4, t4.le (by omega), hr3.but b4, hm3.but b4, he⟩
      clear b3 t3 hr3 hm3 he
      rintro σ4 H4 ⟨rv, ev, mv, rd, md, rfl, b4, t4, hr4, hm4, he⟩
      refine ⟨fun σ' H' => σ' = [some (.ref cu), some (.int (0 + i)), some rv, some ev, some mv] ∧ Same H4 H', ?_, ?_⟩
      · refine ⟨_, rfl, _, rfl, rv, mv, rowOf rd, rowOf md, rfl, hr4.row, hm4.row, fun H5 s5 => ⟨_, rfl, iteF ?_⟩⟩
        refine ⟨_, rfl, _, rfl, mv, rv, rowOf md, rowOf rd, rfl, hm4.row.same s5, hr4.row.same s5, fun H6 s6 => ⟨_, rfl, iteF ?_⟩⟩
        exact ⟨rfl, s5.trans s6⟩
      rintro σ5 H5 ⟨rfl, s5⟩
      have t5 := t4.same s5
      have hr5 := hr4.but (.of s5)
      have hm5 := hm4.but (.of s5)
      refine ⟨_, rfl, _, rfl, cu, _, rfl, t5, by omega, fun H6 lv ld b6 t6 hl hlg => ?_⟩
      have hr6 := hr5.but b6
      have hm6 := hm5.but b6
      have b06 := (b4.trans (.of s5)).trans b6
      refine ⟨rv, lv, rowOf rd, ld, rfl, hr6.row, hl.dr, hlg, fun H7 s7 => ⟨_, rfl, iteF ?_⟩⟩
      have fin : ∀ H8, Same H7 H8 → (∃ v1 v2 v3 v4, [some (V.ref cu), some (.int (0 + i)), some rv, some ev, some mv] = [some (.ref cu), v1, v2, v3, v4]) ∧ But cu H H8 ∧ TapeAt cu (80 * (i + 1)) H8 := fun H8 s8 => ⟨⟨_, _, _, _, rfl⟩, b06.trans (.of (s7.trans s8)), (t6.same (s7.trans s8)).le (by omega)⟩
      rcases he with rfl | ⟨e, rfl, e0, e1⟩
      · refine ⟨_, rfl, _, rfl, rfl, _, rfl, iteT ?_⟩
        exact ⟨mv, .int 7, rowOf md, .int 7, rfl, hm6.row.same s7, .int 7, by decide +kernel, fun H8 s8 => ⟨_, rfl, iteF (fin H8 s8)⟩⟩
      · refine ⟨_, rfl, _, rfl, rfl, _, rfl, iteF ?_⟩
        refine ⟨_, rfl, mv, .int e, rowOf md, .int e, rfl, hm6.row.same s7, .int e, ?_, fun H8 s8 => ⟨_, rfl, iteF (fin H8 s8)⟩⟩
        show (decide (0 ≤ e) && decide (e ≤ 1000000000000)) = true
        rw [decide_eq_true e0, decide_eq_true (show e ≤ 1000000000000 by omega)]
        rfl
    · rintro σ H1 ⟨⟨v1, v2, v3, v4, rfl⟩, b1, t1⟩
      have T1 := tabs_tape hT ht b1
      refine ⟨_, rfl, cu, _, rfl, t1, by decide, T1, fun H2 b2 t2 => ?_⟩
      exact k _ ((ButT.but b1).trans b2) t2
abbrev s_law : Stmt := top 131
theorem sc_law : FnScope ["_law_script", "_law_place"] ["_law_script"] (defScope s_law) := ⟨rfl, rfl, rfl, by decide +kernel, rfl, by decide +kernel, by decide +kernel⟩

theorem ok_law {f cL : Addr} {fd : FuncData} {TT : List (Addr × Str)} (F : FunC K "law" "law" s_law f fd cL) (T : TxtX K mg w tG t1 t3 tC tK tP aO aW aCh Ce) (D_law_cell : Df P w K mg base 1 "_law_cell" ["_law_script", "_law_place"] (spCell K)) (D_law_src : Df P w K mg base 1 "_law_src" ["_law_number"] spSrc) (D_law_right : DfG P w K mg base 13 "_law_right" ["_law_tape"] (spRight TT)) : FnG P w K mg base 14 f fd ["_law_script"] (spLaw K TT) := by
  refine okGC F sc_law (fun vs H Q E h => ?_) (fun A outer s H vs Q E hg hr h => ?_)
  · obtain ⟨a, ns, rfl, _⟩ := h
    rfl
  · obtain ⟨a, ns, rfl, hSg, hlen, hT, k⟩ := h
    refine ⟨_, (pss_one (ps_ret (pe_callB (cr_all rfl) (by rfl) T.all (by decide +kernel) (pa_cons (pe_lc (own := [("_law_place", 1)]) (g := gName 1) (tt := tYes) rfl sc_law.nd (pi_range1 rfl T.range (pa_cons (pe_callB (call_max2 rfl) (by rfl) T.max (by decide +kernel) (pa_cons pe_int (pa_cons (pe_callB (call_min2 rfl) (by rfl) T.min (by decide +kernel) (pa_cons (pe_callB call_len_seq (by rfl) T.len (by decide +kernel) (pa_cons (pv 0) pa_nil)) (pa_cons pe_int pa_nil))) pa_nil))) pa_nil)) (blkOk_by (N := ["_law_script", "_law_place"]) (sc := defScope s_law) (by decide +kernel)) (fun _ _ _ _ _ => pg_name (i := 1) sc_law.nd rfl (Or.inl rfl)) (fun _ _ _ _ _ => pts_nil) (fun _ _ _ _ _ => (pe_dfG D_law_right hg (hr.mono (by decide)) (by rfl) (pa_cons (pe_df D_law_src (hr.mono (by decide)) (by rfl) (pa_cons (pe_df D_law_cell (hr.mono (by decide)) (by rfl) (pa_cons (pv 0) (pa_cons (pv 1) pa_nil))) pa_nil)) pa_nil)))) pa_nil)))), ?_⟩
    refine ⟨_, rfl, a, _, rfl, .inl hSg, _, _, rfl, _, _, rfl, _, rfl, ?_, ?_, fun D hD => ?_⟩
    · split <;> split <;> omega
    · have : (List.map V.int ns).length = ns.length := List.length_map ..
      split <;> split <;> omega
    · refine lc_range (lo := 0) (fun i H' => ButT D H H' ∧ LamX.Tabs TT H' ∧ H' D = some (.lst (List.replicate i (.bl true)))) ⟨.but But.upd, tabs_same hT (same_upd hD), upd_same⟩ ?_ ?_
      · rintro i H1' hi ⟨bD, tD, hDi⟩
        have hi63 : i ≤ 100 := by
          have : (List.map V.int ns).length = ns.length := List.length_map ..
          split at hi <;> split at hi <;> omega
        refine ⟨rfl, ?_⟩
        unfold tYes
        refine iteT ?_
        refine ⟨_, rfl, _, rfl, a, ns, i, ?_, seq_butT hSg hD bD, hi63, hlen, fun H2' j s2 => ?_⟩
        · show [V.ref a, V.int (0 + (i : Int))] = _
          rw [Int.zero_add]
        refine ⟨j, rfl, fun H3' c s3 nc hc => ?_⟩
        have s23 := s2.trans s3
        have hD3 := s23 _ _ hDi
        have nDc : D ≠ c := ne_of_none (s2 _ _ hDi) nc
        refine ⟨c, rfl, hc, tabs_same tD s23, fun H4' b4 t4 => ?_⟩
        have hD4 := b4 D _ nDc (by intro ps z; cases z) hD3
        refine ⟨_, hD4, ?_, ?_, tabs_upd t4 hD4, ?_⟩
        · rw [List.length_replicate]
          exact small1000 (by omega)
        · intro y o ny nt e
          rw [upd_ne ny]
          have hy1 := s2 _ _ (bD _ _ ny nt e)
          exact b4 _ _ (ne_of_none hy1 nc) nt (s3 _ _ hy1)
        · rw [upd_same, List.replicate_succ']
      · rintro H1' ⟨bD, _, hDn⟩
        refine ⟨D, List.replicate _ true, rfl, SqL.of (by rw [List.map_replicate]; exact hDn), ?_⟩
        have ea : ∀ n : Nat, (List.replicate n true).all id = true := fun n => by
          rw [List.all_eq_true]
          intro z hz
          rw [List.eq_of_mem_replicate hz]
          rfl
        rw [ea]
        exact k _
end
end RL

namespace RL
open PySem L2
set_option maxHeartbeats 4000000 in
theorem all_mk {l : PySem.W.OpenLaw} {w : World} {K : PySem.W.Frag} {h : Heap} {mg : Str → Option Value} (X : K.In h) (G : h.Ns mainGlobals mg) {fa aO aW aCh Ce f_is_integer f_is_integer_within f_is_pair_of_integers f_is_resistance f_pair_of f_sign f_pair_order f_is_number f_is_piece f_is_row f_is_empty f_matrix_and_scale f_matrix_of f_shown_before f_common_divisor f_lowest_terms J C f_checked_row f_lowest_pair f_piece_text f_piece_with_text f_JoinedRow_init f_Pattern_init f_Pattern_read pr_Pattern_read f_Pattern_pieces pr_Pattern_pieces f_difference f_sign_at f_sign_far_out f_sign_from f_sign_towards f_limit_beside f_never_below f_square_root f_under_root f_equation_of_fraction f_simplest_equation f_Exact_init f_Exact_eq f_Exact_equation pr_Exact_equation f_ladder_limit f_check_pattern f_check_resistance f_times f_more_load f_certify_never f_certify_limit f_check_never f_check_more f_check_limit f_accepts X0 X1 X2 X3 X4 X5 X6 X7 X8 X9 X10 X11 X12 X13 X14 X15 X16 X17 f_WrongValue_init f_NotAPattern_init f_InvalidResistance_init f_law_error f_law_told f_law_cell f_law_src f_law_pick f_law_lowest f_law_frac f_law_led f_law_is_load f_law_is_number f_law_anyrow f_law_anyload f_law_sign f_law_never f_law_isqrt f_law_limit f_law_even f_law_some_row f_law_near f_law_crossing f_law_text f_law_pat f_law_never_right f_law_limit_right f_law_refused_right cA_law_refused_right PA_law_refused_right f_law_right f_law cA_law PA_law : Addr}
    {od_is_integer an_is_integer od_is_integer_within an_is_integer_within od_is_pair_of_integers an_is_pair_of_integers od_is_resistance an_is_resistance od_pair_of an_pair_of od_sign an_sign od_pair_order an_pair_order od_is_number an_is_number od_is_piece an_is_piece od_is_row an_is_row od_is_empty an_is_empty od_matrix_and_scale an_matrix_and_scale od_matrix_of an_matrix_of od_shown_before an_shown_before od_common_divisor an_common_divisor od_lowest_terms an_lowest_terms od_checked_row an_checked_row od_lowest_pair an_lowest_pair od_piece_text an_piece_text od_piece_with_text an_piece_with_text od_JoinedRow_init an_JoinedRow_init od_Pattern_init an_Pattern_init od_Pattern_read an_Pattern_read od_Pattern_pieces an_Pattern_pieces od_difference an_difference od_sign_at an_sign_at od_sign_far_out an_sign_far_out od_sign_from an_sign_from od_sign_towards an_sign_towards od_limit_beside an_limit_beside od_never_below an_never_below od_square_root an_square_root od_under_root an_under_root od_equation_of_fraction an_equation_of_fraction od_simplest_equation an_simplest_equation od_Exact_init an_Exact_init od_Exact_eq an_Exact_eq od_Exact_equation an_Exact_equation od_ladder_limit an_ladder_limit od_check_pattern an_check_pattern od_check_resistance an_check_resistance od_times an_times od_more_load an_more_load od_certify_never an_certify_never od_certify_limit an_certify_limit od_check_never an_check_never od_check_more an_check_more od_check_limit an_check_limit od_accepts an_accepts od_WrongValue_init an_WrongValue_init od_NotAPattern_init an_NotAPattern_init od_InvalidResistance_init an_InvalidResistance_init od_law_error an_law_error od_law_told an_law_told od_law_cell an_law_cell od_law_src an_law_src od_law_pick an_law_pick od_law_lowest an_law_lowest od_law_frac an_law_frac od_law_led an_law_led od_law_is_load an_law_is_load od_law_is_number an_law_is_number od_law_anyrow an_law_anyrow od_law_anyload an_law_anyload od_law_sign an_law_sign od_law_never an_law_never od_law_isqrt an_law_isqrt od_law_limit an_law_limit od_law_even an_law_even od_law_some_row an_law_some_row od_law_near an_law_near od_law_crossing an_law_crossing od_law_text an_law_text od_law_pat an_law_pat od_law_never_right an_law_never_right od_law_limit_right an_law_limit_right od_law_refused_right an_law_refused_right od_law_right an_law_right od_law an_law : Option Addr} {sl_is_integer sl_is_integer_within sl_is_pair_of_integers sl_is_resistance sl_pair_of sl_sign sl_pair_order sl_is_number sl_is_piece sl_is_row sl_is_empty sl_matrix_and_scale sl_matrix_of sl_shown_before sl_common_divisor sl_lowest_terms sl_checked_row sl_lowest_pair sl_piece_text sl_piece_with_text sl_JoinedRow_init sl_Pattern_init sl_Pattern_read sl_Pattern_pieces sl_difference sl_sign_at sl_sign_far_out sl_sign_from sl_sign_towards sl_limit_beside sl_never_below sl_square_root sl_under_root sl_equation_of_fraction sl_simplest_equation sl_Exact_init sl_Exact_eq sl_Exact_equation sl_ladder_limit sl_check_pattern sl_check_resistance sl_times sl_more_load sl_certify_never sl_certify_limit sl_check_never sl_check_more sl_check_limit sl_accepts sl_WrongValue_init sl_NotAPattern_init sl_InvalidResistance_init sl_law_error sl_law_told sl_law_cell sl_law_src sl_law_pick sl_law_lowest sl_law_frac sl_law_led sl_law_is_load sl_law_is_number sl_law_anyrow sl_law_anyload sl_law_sign sl_law_never sl_law_isqrt sl_law_limit sl_law_even sl_law_some_row sl_law_near sl_law_crossing sl_law_text sl_law_pat sl_law_never_right sl_law_limit_right sl_law_refused_right sl_law_right sl_law : Array (Option Value)}
    {oc_is_integer kV_is_integer dc_is_integer pm_is_integer cd_is_integer ct_is_integer oc_is_integer_within kV_is_integer_within dc_is_integer_within pm_is_integer_within cd_is_integer_within ct_is_integer_within oc_is_pair_of_integers kV_is_pair_of_integers dc_is_pair_of_integers pm_is_pair_of_integers cd_is_pair_of_integers ct_is_pair_of_integers oc_is_resistance kV_is_resistance dc_is_resistance pm_is_resistance cd_is_resistance ct_is_resistance oc_pair_of kV_pair_of dc_pair_of pm_pair_of cd_pair_of ct_pair_of oc_sign kV_sign dc_sign pm_sign cd_sign ct_sign oc_pair_order kV_pair_order dc_pair_order pm_pair_order cd_pair_order ct_pair_order oc_is_number kV_is_number dc_is_number pm_is_number cd_is_number ct_is_number oc_is_piece kV_is_piece dc_is_piece pm_is_piece cd_is_piece ct_is_piece oc_is_row kV_is_row dc_is_row pm_is_row cd_is_row ct_is_row oc_is_empty kV_is_empty dc_is_empty pm_is_empty cd_is_empty ct_is_empty oc_matrix_and_scale kV_matrix_and_scale dc_matrix_and_scale pm_matrix_and_scale cd_matrix_and_scale ct_matrix_and_scale oc_matrix_of kV_matrix_of dc_matrix_of pm_matrix_of cd_matrix_of ct_matrix_of oc_shown_before kV_shown_before dc_shown_before pm_shown_before cd_shown_before ct_shown_before oc_common_divisor kV_common_divisor dc_common_divisor pm_common_divisor cd_common_divisor ct_common_divisor oc_lowest_terms kV_lowest_terms dc_lowest_terms pm_lowest_terms cd_lowest_terms ct_lowest_terms oc_checked_row kV_checked_row dc_checked_row pm_checked_row cd_checked_row ct_checked_row oc_lowest_pair kV_lowest_pair dc_lowest_pair pm_lowest_pair cd_lowest_pair ct_lowest_pair oc_piece_text kV_piece_text dc_piece_text pm_piece_text cd_piece_text ct_piece_text oc_piece_with_text kV_piece_with_text dc_piece_with_text pm_piece_with_text cd_piece_with_text ct_piece_with_text oc_JoinedRow_init kV_JoinedRow_init dc_JoinedRow_init pm_JoinedRow_init cd_JoinedRow_init ct_JoinedRow_init oc_Pattern_init kV_Pattern_init dc_Pattern_init pm_Pattern_init cd_Pattern_init ct_Pattern_init oc_Pattern_read kV_Pattern_read dc_Pattern_read pm_Pattern_read cd_Pattern_read ct_Pattern_read oc_Pattern_pieces kV_Pattern_pieces dc_Pattern_pieces pm_Pattern_pieces cd_Pattern_pieces ct_Pattern_pieces oc_difference kV_difference dc_difference pm_difference cd_difference ct_difference oc_sign_at kV_sign_at dc_sign_at pm_sign_at cd_sign_at ct_sign_at oc_sign_far_out kV_sign_far_out dc_sign_far_out pm_sign_far_out cd_sign_far_out ct_sign_far_out oc_sign_from kV_sign_from dc_sign_from pm_sign_from cd_sign_from ct_sign_from oc_sign_towards kV_sign_towards dc_sign_towards pm_sign_towards cd_sign_towards ct_sign_towards oc_limit_beside kV_limit_beside dc_limit_beside pm_limit_beside cd_limit_beside ct_limit_beside oc_never_below kV_never_below dc_never_below pm_never_below cd_never_below ct_never_below oc_square_root kV_square_root dc_square_root pm_square_root cd_square_root ct_square_root oc_under_root kV_under_root dc_under_root pm_under_root cd_under_root ct_under_root oc_equation_of_fraction kV_equation_of_fraction dc_equation_of_fraction pm_equation_of_fraction cd_equation_of_fraction ct_equation_of_fraction oc_simplest_equation kV_simplest_equation dc_simplest_equation pm_simplest_equation cd_simplest_equation ct_simplest_equation oc_Exact_init kV_Exact_init dc_Exact_init pm_Exact_init cd_Exact_init ct_Exact_init oc_Exact_eq kV_Exact_eq dc_Exact_eq pm_Exact_eq cd_Exact_eq ct_Exact_eq oc_Exact_equation kV_Exact_equation dc_Exact_equation pm_Exact_equation cd_Exact_equation ct_Exact_equation oc_ladder_limit kV_ladder_limit dc_ladder_limit pm_ladder_limit cd_ladder_limit ct_ladder_limit oc_check_pattern kV_check_pattern dc_check_pattern pm_check_pattern cd_check_pattern ct_check_pattern oc_check_resistance kV_check_resistance dc_check_resistance pm_check_resistance cd_check_resistance ct_check_resistance oc_times kV_times dc_times pm_times cd_times ct_times oc_more_load kV_more_load dc_more_load pm_more_load cd_more_load ct_more_load oc_certify_never kV_certify_never dc_certify_never pm_certify_never cd_certify_never ct_certify_never oc_certify_limit kV_certify_limit dc_certify_limit pm_certify_limit cd_certify_limit ct_certify_limit oc_check_never kV_check_never dc_check_never pm_check_never cd_check_never ct_check_never oc_check_more kV_check_more dc_check_more pm_check_more cd_check_more ct_check_more oc_check_limit kV_check_limit dc_check_limit pm_check_limit cd_check_limit ct_check_limit oc_accepts kV_accepts dc_accepts pm_accepts cd_accepts ct_accepts oc_WrongValue_init kV_WrongValue_init dc_WrongValue_init pm_WrongValue_init cd_WrongValue_init ct_WrongValue_init oc_NotAPattern_init kV_NotAPattern_init dc_NotAPattern_init pm_NotAPattern_init cd_NotAPattern_init ct_NotAPattern_init oc_InvalidResistance_init kV_InvalidResistance_init dc_InvalidResistance_init pm_InvalidResistance_init cd_InvalidResistance_init ct_InvalidResistance_init oc_law_error kV_law_error dc_law_error pm_law_error cd_law_error ct_law_error oc_law_told kV_law_told dc_law_told pm_law_told cd_law_told ct_law_told oc_law_cell kV_law_cell dc_law_cell pm_law_cell cd_law_cell ct_law_cell oc_law_src kV_law_src dc_law_src pm_law_src cd_law_src ct_law_src oc_law_pick kV_law_pick dc_law_pick pm_law_pick cd_law_pick ct_law_pick oc_law_lowest kV_law_lowest dc_law_lowest pm_law_lowest cd_law_lowest ct_law_lowest oc_law_frac kV_law_frac dc_law_frac pm_law_frac cd_law_frac ct_law_frac oc_law_led kV_law_led dc_law_led pm_law_led cd_law_led ct_law_led oc_law_is_load kV_law_is_load dc_law_is_load pm_law_is_load cd_law_is_load ct_law_is_load oc_law_is_number kV_law_is_number dc_law_is_number pm_law_is_number cd_law_is_number ct_law_is_number oc_law_anyrow kV_law_anyrow dc_law_anyrow pm_law_anyrow cd_law_anyrow ct_law_anyrow oc_law_anyload kV_law_anyload dc_law_anyload pm_law_anyload cd_law_anyload ct_law_anyload oc_law_sign kV_law_sign dc_law_sign pm_law_sign cd_law_sign ct_law_sign oc_law_never kV_law_never dc_law_never pm_law_never cd_law_never ct_law_never oc_law_isqrt kV_law_isqrt dc_law_isqrt pm_law_isqrt cd_law_isqrt ct_law_isqrt oc_law_limit kV_law_limit dc_law_limit pm_law_limit cd_law_limit ct_law_limit oc_law_even kV_law_even dc_law_even pm_law_even cd_law_even ct_law_even oc_law_some_row kV_law_some_row dc_law_some_row pm_law_some_row cd_law_some_row ct_law_some_row oc_law_near kV_law_near dc_law_near pm_law_near cd_law_near ct_law_near oc_law_crossing kV_law_crossing dc_law_crossing pm_law_crossing cd_law_crossing ct_law_crossing oc_law_text kV_law_text dc_law_text pm_law_text cd_law_text ct_law_text oc_law_pat kV_law_pat dc_law_pat pm_law_pat cd_law_pat ct_law_pat oc_law_never_right kV_law_never_right dc_law_never_right pm_law_never_right cd_law_never_right ct_law_never_right oc_law_limit_right kV_law_limit_right dc_law_limit_right pm_law_limit_right cd_law_limit_right ct_law_limit_right oc_law_refused_right kV_law_refused_right dc_law_refused_right pm_law_refused_right cd_law_refused_right ct_law_refused_right oc_law_right kV_law_right dc_law_right pm_law_right cd_law_right ct_law_right oc_law kV_law dc_law pm_law cd_law ct_law : Value} {tG : Tok} {t1 : Tok} {t3 : Tok} {tC : Tok} {tK : Tok} {aO_k0 aO_k1 : Tok} {od_aO : Option Addr} {nn_aO : Nat} {sl_aO : Array (Option Value)} {aW_k0 aW_k1 : Tok} {od_aW : Option Addr} {nn_aW : Nat} {sl_aW : Array (Option Value)} {tP : Tok} {t2 : Tok} {rest_Pattern_read : List Value} {rest_Pattern_pieces : List Value} {rest_Exact_equation : List Value} {dC_law_refused_right : Option Addr} {vC_law_refused_right : Array Value} {sC_law_refused_right : Array (Option Value)} {dC_law : Option Addr} {vC_law : Array Value} {sC_law : Array (Option Value)} (hfa : mg "law" = some (.ref fa))
    (aG : PySem.W.nsIn K mainGlobals "GREATEST" = some (some (.int 1000000000000 tG)))
    (aOh : PySem.W.nsIn K mainGlobals "MOST_OHMS" = some (some (.int 12 t1)))
    (aJo : PySem.W.nsIn K mainGlobals "MOST_JOINED" = some (some (.int 8 t3)))
    (aMS : PySem.W.nsIn K mainGlobals "MOST_SECTIONS" = some (some (.int 100 tC)))
    (aKi : PySem.W.nsIn K mainGlobals "MOST_KINDS" = some (some (.int 4 tK)))
    (aOp : PySem.W.nsIn K mainGlobals "OPEN" = some (some (.ref aO)))
    (laOp : K.lookup aO = some ⟨.type "tuple", od_aO, .seq #[.int 1 aO_k0, .int 0 aO_k1] nn_aO, sl_aO⟩)
    (aWo : PySem.W.nsIn K mainGlobals "WORDS" = some (some (.ref aW)))
    (laWo : K.lookup aW = some ⟨.type "tuple", od_aW, .seq #[.str (Str.ofString "rail") aW_k0, .str (Str.ofString "rung") aW_k1] nn_aW, sl_aW⟩)
    (aChk : PySem.W.nsIn K mainGlobals "CHECKS" = some (some (.ref aCh)))
    (kr_chk : He.dicW K aCh = some (He.keysIn w.params [("value" : Str), ("most" : Str), ("least" : Str), ("apart" : Str), ("never" : Str), ("more" : Str), ("limit" : Str), ("greatest" : Str), ("least of all" : Str)]))
    (z_len : PySem.W.nsIn K mainGlobals "len" = some none)
    (z_abs : PySem.W.nsIn K mainGlobals "abs" = some none)
    (z_int : PySem.W.nsIn K mainGlobals "int" = some none)
    (z_bool : PySem.W.nsIn K mainGlobals "bool" = some none)
    (z_tuple : PySem.W.nsIn K mainGlobals "tuple" = some none)
    (z_isinstance : PySem.W.nsIn K mainGlobals "isinstance" = some none)
    (z_divmod : PySem.W.nsIn K mainGlobals "divmod" = some none)
    (z_max : PySem.W.nsIn K mainGlobals "max" = some none)
    (z_min : PySem.W.nsIn K mainGlobals "min" = some none)
    (z_range : PySem.W.nsIn K mainGlobals "range" = some none)
    (z_all : PySem.W.nsIn K mainGlobals "all" = some none)
    (z_repr : PySem.W.nsIn K mainGlobals "repr" = some none)
    (z_str : PySem.W.nsIn K mainGlobals "str" = some none)
    (z_enumerate : PySem.W.nsIn K mainGlobals "enumerate" = some none)
    (z_any : PySem.W.nsIn K mainGlobals "any" = some none)
    (z_list : PySem.W.nsIn K mainGlobals "list" = some none)
    (aGP : PySem.W.nsIn K mainGlobals "GREATEST_PART" = some (some (.int 10000000000000000000000000000000000000000 tP)))
    (aCe : PySem.W.nsIn K mainGlobals "Exact" = some (some (.ref Ce)))
    (pgCe : PySem.W.plainGet K Ce Str.empty = true)
    (hdCe : PySem.W.hasDictIn K Ce = true)
    (poCe : PySem.W.plainOver K Ce = true)
    (saCe : PySem.W.findIn K (.ref Ce) "__setattr__" = some (some (.builtin "object.__setattr__")))
    (mkCe : PySem.W.makesIn K Ce = true)
    (kcCe : PySem.W.keepIn K (.ref Ce) = true)
    (nCe_parts : PySem.W.findIn K (.ref Ce) "parts" = some none)
    (kt_E : PySem.W.kitOne K (.type "tuple") (.ref Ce) = some false)
    (nf_E : PySem.W.notFirst K Ce (.type "tuple") = true)
    (a_is_integer : PySem.W.nsIn K mainGlobals "is_integer" = some (some (.ref f_is_integer)))
    (l_is_integer : K.lookup f_is_integer = some ⟨oc_is_integer, od_is_integer, .func (PySem.W.fnOf "is_integer" "is_integer" (defArgs s_is_integer) (defBody s_is_integer) (defScope s_is_integer) .none kV_is_integer dc_is_integer pm_is_integer an_is_integer cd_is_integer ct_is_integer), sl_is_integer⟩)
    (c_is_integer : PySem.W.codeIn K cd_is_integer "is_integer" = true)
    (k_is_integer : PySem.W.keepIn K (.ref f_is_integer) = true)
    (a_is_integer_within : PySem.W.nsIn K mainGlobals "is_integer_within" = some (some (.ref f_is_integer_within)))
    (l_is_integer_within : K.lookup f_is_integer_within = some ⟨oc_is_integer_within, od_is_integer_within, .func (PySem.W.fnOf "is_integer_within" "is_integer_within" (defArgs s_is_integer_within) (defBody s_is_integer_within) (defScope s_is_integer_within) .none kV_is_integer_within dc_is_integer_within pm_is_integer_within an_is_integer_within cd_is_integer_within ct_is_integer_within), sl_is_integer_within⟩)
    (c_is_integer_within : PySem.W.codeIn K cd_is_integer_within "is_integer_within" = true)
    (k_is_integer_within : PySem.W.keepIn K (.ref f_is_integer_within) = true)
    (a_is_pair_of_integers : PySem.W.nsIn K mainGlobals "is_pair_of_integers" = some (some (.ref f_is_pair_of_integers)))
    (l_is_pair_of_integers : K.lookup f_is_pair_of_integers = some ⟨oc_is_pair_of_integers, od_is_pair_of_integers, .func (PySem.W.fnOf "is_pair_of_integers" "is_pair_of_integers" (defArgs s_is_pair_of_integers) (defBody s_is_pair_of_integers) (defScope s_is_pair_of_integers) .none kV_is_pair_of_integers dc_is_pair_of_integers pm_is_pair_of_integers an_is_pair_of_integers cd_is_pair_of_integers ct_is_pair_of_integers), sl_is_pair_of_integers⟩)
    (c_is_pair_of_integers : PySem.W.codeIn K cd_is_pair_of_integers "is_pair_of_integers" = true)
    (k_is_pair_of_integers : PySem.W.keepIn K (.ref f_is_pair_of_integers) = true)
    (a_is_resistance : PySem.W.nsIn K mainGlobals "is_resistance" = some (some (.ref f_is_resistance)))
    (l_is_resistance : K.lookup f_is_resistance = some ⟨oc_is_resistance, od_is_resistance, .func (PySem.W.fnOf "is_resistance" "is_resistance" (defArgs s_is_resistance) (defBody s_is_resistance) (defScope s_is_resistance) .none kV_is_resistance dc_is_resistance pm_is_resistance an_is_resistance cd_is_resistance ct_is_resistance), sl_is_resistance⟩)
    (c_is_resistance : PySem.W.codeIn K cd_is_resistance "is_resistance" = true)
    (k_is_resistance : PySem.W.keepIn K (.ref f_is_resistance) = true)
    (a_pair_of : PySem.W.nsIn K mainGlobals "pair_of" = some (some (.ref f_pair_of)))
    (l_pair_of : K.lookup f_pair_of = some ⟨oc_pair_of, od_pair_of, .func (PySem.W.fnOf "pair_of" "pair_of" (defArgs s_pair_of) (defBody s_pair_of) (defScope s_pair_of) .none kV_pair_of dc_pair_of pm_pair_of an_pair_of cd_pair_of ct_pair_of), sl_pair_of⟩)
    (c_pair_of : PySem.W.codeIn K cd_pair_of "pair_of" = true)
    (k_pair_of : PySem.W.keepIn K (.ref f_pair_of) = true)
    (a_sign : PySem.W.nsIn K mainGlobals "sign" = some (some (.ref f_sign)))
    (l_sign : K.lookup f_sign = some ⟨oc_sign, od_sign, .func (PySem.W.fnOf "sign" "sign" (defArgs s_sign) (defBody s_sign) (defScope s_sign) .none kV_sign dc_sign pm_sign an_sign cd_sign ct_sign), sl_sign⟩)
    (c_sign : PySem.W.codeIn K cd_sign "sign" = true)
    (k_sign : PySem.W.keepIn K (.ref f_sign) = true)
    (a_pair_order : PySem.W.nsIn K mainGlobals "pair_order" = some (some (.ref f_pair_order)))
    (l_pair_order : K.lookup f_pair_order = some ⟨oc_pair_order, od_pair_order, .func (PySem.W.fnOf "pair_order" "pair_order" (defArgs s_pair_order) (defBody s_pair_order) (defScope s_pair_order) .none kV_pair_order dc_pair_order pm_pair_order an_pair_order cd_pair_order ct_pair_order), sl_pair_order⟩)
    (c_pair_order : PySem.W.codeIn K cd_pair_order "pair_order" = true)
    (k_pair_order : PySem.W.keepIn K (.ref f_pair_order) = true)
    (a_is_number : PySem.W.nsIn K mainGlobals "is_number" = some (some (.ref f_is_number)))
    (l_is_number : K.lookup f_is_number = some ⟨oc_is_number, od_is_number, .func (PySem.W.fnOf "is_number" "is_number" (defArgs s_is_number) (defBody s_is_number) (defScope s_is_number) .none kV_is_number dc_is_number pm_is_number an_is_number cd_is_number ct_is_number), sl_is_number⟩)
    (c_is_number : PySem.W.codeIn K cd_is_number "is_number" = true)
    (k_is_number : PySem.W.keepIn K (.ref f_is_number) = true)
    (a_is_piece : PySem.W.nsIn K mainGlobals "is_piece" = some (some (.ref f_is_piece)))
    (l_is_piece : K.lookup f_is_piece = some ⟨oc_is_piece, od_is_piece, .func (PySem.W.fnOf "is_piece" "is_piece" (defArgs s_is_piece) (defBody s_is_piece) (defScope s_is_piece) .none kV_is_piece dc_is_piece pm_is_piece an_is_piece cd_is_piece ct_is_piece), sl_is_piece⟩)
    (c_is_piece : PySem.W.codeIn K cd_is_piece "is_piece" = true)
    (k_is_piece : PySem.W.keepIn K (.ref f_is_piece) = true)
    (a_is_row : PySem.W.nsIn K mainGlobals "is_row" = some (some (.ref f_is_row)))
    (l_is_row : K.lookup f_is_row = some ⟨oc_is_row, od_is_row, .func (PySem.W.fnOf "is_row" "is_row" (defArgs s_is_row) (defBody s_is_row) (defScope s_is_row) .none kV_is_row dc_is_row pm_is_row an_is_row cd_is_row ct_is_row), sl_is_row⟩)
    (c_is_row : PySem.W.codeIn K cd_is_row "is_row" = true)
    (k_is_row : PySem.W.keepIn K (.ref f_is_row) = true)
    (a_is_empty : PySem.W.nsIn K mainGlobals "is_empty" = some (some (.ref f_is_empty)))
    (l_is_empty : K.lookup f_is_empty = some ⟨oc_is_empty, od_is_empty, .func (PySem.W.fnOf "is_empty" "is_empty" (defArgs s_is_empty) (defBody s_is_empty) (defScope s_is_empty) .none kV_is_empty dc_is_empty pm_is_empty an_is_empty cd_is_empty ct_is_empty), sl_is_empty⟩)
    (c_is_empty : PySem.W.codeIn K cd_is_empty "is_empty" = true)
    (k_is_empty : PySem.W.keepIn K (.ref f_is_empty) = true)
    (a_matrix_and_scale : PySem.W.nsIn K mainGlobals "matrix_and_scale" = some (some (.ref f_matrix_and_scale)))
    (l_matrix_and_scale : K.lookup f_matrix_and_scale = some ⟨oc_matrix_and_scale, od_matrix_and_scale, .func (PySem.W.fnOf "matrix_and_scale" "matrix_and_scale" (defArgs s_matrix_and_scale) (defBody s_matrix_and_scale) (defScope s_matrix_and_scale) .none kV_matrix_and_scale dc_matrix_and_scale pm_matrix_and_scale an_matrix_and_scale cd_matrix_and_scale ct_matrix_and_scale), sl_matrix_and_scale⟩)
    (c_matrix_and_scale : PySem.W.codeIn K cd_matrix_and_scale "matrix_and_scale" = true)
    (k_matrix_and_scale : PySem.W.keepIn K (.ref f_matrix_and_scale) = true)
    (a_matrix_of : PySem.W.nsIn K mainGlobals "matrix_of" = some (some (.ref f_matrix_of)))
    (l_matrix_of : K.lookup f_matrix_of = some ⟨oc_matrix_of, od_matrix_of, .func (PySem.W.fnOf "matrix_of" "matrix_of" (defArgs s_matrix_of) (defBody s_matrix_of) (defScope s_matrix_of) .none kV_matrix_of dc_matrix_of pm_matrix_of an_matrix_of cd_matrix_of ct_matrix_of), sl_matrix_of⟩)
    (c_matrix_of : PySem.W.codeIn K cd_matrix_of "matrix_of" = true)
    (k_matrix_of : PySem.W.keepIn K (.ref f_matrix_of) = true)
    (a_shown_before : PySem.W.nsIn K mainGlobals "shown_before" = some (some (.ref f_shown_before)))
    (l_shown_before : K.lookup f_shown_before = some ⟨oc_shown_before, od_shown_before, .func (PySem.W.fnOf "shown_before" "shown_before" (defArgs s_shown_before) (defBody s_shown_before) (defScope s_shown_before) .none kV_shown_before dc_shown_before pm_shown_before an_shown_before cd_shown_before ct_shown_before), sl_shown_before⟩)
    (c_shown_before : PySem.W.codeIn K cd_shown_before "shown_before" = true)
    (k_shown_before : PySem.W.keepIn K (.ref f_shown_before) = true)
    (a_common_divisor : PySem.W.nsIn K mainGlobals "common_divisor" = some (some (.ref f_common_divisor)))
    (l_common_divisor : K.lookup f_common_divisor = some ⟨oc_common_divisor, od_common_divisor, .func (PySem.W.fnOf "common_divisor" "common_divisor" (defArgs s_common_divisor) (defBody s_common_divisor) (defScope s_common_divisor) .none kV_common_divisor dc_common_divisor pm_common_divisor an_common_divisor cd_common_divisor ct_common_divisor), sl_common_divisor⟩)
    (c_common_divisor : PySem.W.codeIn K cd_common_divisor "common_divisor" = true)
    (k_common_divisor : PySem.W.keepIn K (.ref f_common_divisor) = true)
    (a_lowest_terms : PySem.W.nsIn K mainGlobals "lowest_terms" = some (some (.ref f_lowest_terms)))
    (l_lowest_terms : K.lookup f_lowest_terms = some ⟨oc_lowest_terms, od_lowest_terms, .func (PySem.W.fnOf "lowest_terms" "lowest_terms" (defArgs s_lowest_terms) (defBody s_lowest_terms) (defScope s_lowest_terms) .none kV_lowest_terms dc_lowest_terms pm_lowest_terms an_lowest_terms cd_lowest_terms ct_lowest_terms), sl_lowest_terms⟩)
    (c_lowest_terms : PySem.W.codeIn K cd_lowest_terms "lowest_terms" = true)
    (k_lowest_terms : PySem.W.keepIn K (.ref f_lowest_terms) = true)
    (aPi : PySem.W.nsIn K mainGlobals "MOST_PIECES" = some (some (.int 4 t2)))
    (aJ : PySem.W.nsIn K mainGlobals "JoinedRow" = some (some (.ref J)))
    (pgJ : PySem.W.plainGet K J Str.empty = true)
    (hdJ : PySem.W.hasDictIn K J = true)
    (poJ : PySem.W.plainOver K J = true)
    (saJ : PySem.W.findIn K (.ref J) "__setattr__" = some (some (.builtin "object.__setattr__")))
    (mkJ : PySem.W.makesIn K J = true)
    (kcJ : PySem.W.keepIn K (.ref J) = true)
    (nJ_row : PySem.W.findIn K (.ref J) "row" = some none)
    (caJ : PySem.W.findIn K (.ref J) "__class__" = some (some (.builtin "object.__class__")))
    (cmJ : PySem.W.mroIn K J (.type "object") = some true)
    (cn : PySem.W.specialIn K (.builtin "object.__class__") "__get__" = some (some (.builtin "getset_descriptor.__get__")))
    (ct : PySem.W.takesIn K (.builtin "object.__class__") = some true)
    (aC : PySem.W.nsIn K mainGlobals "Pattern" = some (some (.ref C)))
    (pgC : PySem.W.plainGet K C Str.empty = true)
    (hdC : PySem.W.hasDictIn K C = true)
    (poC : PySem.W.plainOver K C = true)
    (saC : PySem.W.findIn K (.ref C) "__setattr__" = some (some (.builtin "object.__setattr__")))
    (mkC : PySem.W.makesIn K C = true)
    (kcC : PySem.W.keepIn K (.ref C) = true)
    (nC_row : PySem.W.findIn K (.ref C) "row" = some none)
    (nC_matrix : PySem.W.findIn K (.ref C) "matrix" = some none)
    (nC_scale : PySem.W.findIn K (.ref C) "scale" = some none)
    (nC_four : PySem.W.findIn K (.ref C) "four" = some none)
    (caC : PySem.W.findIn K (.ref C) "__class__" = some (some (.builtin "object.__class__")))
    (cmC : PySem.W.mroIn K C (.type "object") = some true)
    (kt_J : PySem.W.kitOne K (.type "tuple") (.ref J) = some false)
    (rdC : PySem.W.readsIn K C (.type "type") = true)
    (gaC : PySem.W.specialIn K (.ref C) "__getattribute__" = some (some (.builtin "type.__getattribute__")))
    (a_checked_row : PySem.W.nsIn K mainGlobals "checked_row" = some (some (.ref f_checked_row)))
    (l_checked_row : K.lookup f_checked_row = some ⟨oc_checked_row, od_checked_row, .func (PySem.W.fnOf "checked_row" "checked_row" (defArgs s_checked_row) (defBody s_checked_row) (defScope s_checked_row) .none kV_checked_row dc_checked_row pm_checked_row an_checked_row cd_checked_row ct_checked_row), sl_checked_row⟩)
    (c_checked_row : PySem.W.codeIn K cd_checked_row "checked_row" = true)
    (k_checked_row : PySem.W.keepIn K (.ref f_checked_row) = true)
    (a_lowest_pair : PySem.W.nsIn K mainGlobals "lowest_pair" = some (some (.ref f_lowest_pair)))
    (l_lowest_pair : K.lookup f_lowest_pair = some ⟨oc_lowest_pair, od_lowest_pair, .func (PySem.W.fnOf "lowest_pair" "lowest_pair" (defArgs s_lowest_pair) (defBody s_lowest_pair) (defScope s_lowest_pair) .none kV_lowest_pair dc_lowest_pair pm_lowest_pair an_lowest_pair cd_lowest_pair ct_lowest_pair), sl_lowest_pair⟩)
    (c_lowest_pair : PySem.W.codeIn K cd_lowest_pair "lowest_pair" = true)
    (k_lowest_pair : PySem.W.keepIn K (.ref f_lowest_pair) = true)
    (a_piece_text : PySem.W.nsIn K mainGlobals "piece_text" = some (some (.ref f_piece_text)))
    (l_piece_text : K.lookup f_piece_text = some ⟨oc_piece_text, od_piece_text, .func (PySem.W.fnOf "piece_text" "piece_text" (defArgs s_piece_text) (defBody s_piece_text) (defScope s_piece_text) .none kV_piece_text dc_piece_text pm_piece_text an_piece_text cd_piece_text ct_piece_text), sl_piece_text⟩)
    (c_piece_text : PySem.W.codeIn K cd_piece_text "piece_text" = true)
    (k_piece_text : PySem.W.keepIn K (.ref f_piece_text) = true)
    (a_piece_with_text : PySem.W.nsIn K mainGlobals "piece_with_text" = some (some (.ref f_piece_with_text)))
    (l_piece_with_text : K.lookup f_piece_with_text = some ⟨oc_piece_with_text, od_piece_with_text, .func (PySem.W.fnOf "piece_with_text" "piece_with_text" (defArgs s_piece_with_text) (defBody s_piece_with_text) (defScope s_piece_with_text) .none kV_piece_with_text dc_piece_with_text pm_piece_with_text an_piece_with_text cd_piece_with_text ct_piece_with_text), sl_piece_with_text⟩)
    (c_piece_with_text : PySem.W.codeIn K cd_piece_with_text "piece_with_text" = true)
    (k_piece_with_text : PySem.W.keepIn K (.ref f_piece_with_text) = true)
    (a_JoinedRow_init : PySem.W.findIn K (.ref J) "__init__" = some (some (.ref f_JoinedRow_init)))
    (i_JoinedRow_init : PySem.W.isFn K (.ref f_JoinedRow_init) = true)
    (l_JoinedRow_init : K.lookup f_JoinedRow_init = some ⟨oc_JoinedRow_init, od_JoinedRow_init, .func (PySem.W.fnOf "__init__" "JoinedRow.__init__" (defArgs s_JoinedRow_init) (defBody s_JoinedRow_init) (defScope s_JoinedRow_init) .none kV_JoinedRow_init dc_JoinedRow_init pm_JoinedRow_init an_JoinedRow_init cd_JoinedRow_init ct_JoinedRow_init), sl_JoinedRow_init⟩)
    (c_JoinedRow_init : PySem.W.codeIn K cd_JoinedRow_init "JoinedRow.__init__" = true)
    (k_JoinedRow_init : PySem.W.keepIn K (.ref f_JoinedRow_init) = true)
    (a_Pattern_init : PySem.W.findIn K (.ref C) "__init__" = some (some (.ref f_Pattern_init)))
    (i_Pattern_init : PySem.W.isFn K (.ref f_Pattern_init) = true)
    (l_Pattern_init : K.lookup f_Pattern_init = some ⟨oc_Pattern_init, od_Pattern_init, .func (PySem.W.fnOf "__init__" "Pattern.__init__" (defArgs s_Pattern_init) (defBody s_Pattern_init) (defScope s_Pattern_init) .none kV_Pattern_init dc_Pattern_init pm_Pattern_init an_Pattern_init cd_Pattern_init ct_Pattern_init), sl_Pattern_init⟩)
    (c_Pattern_init : PySem.W.codeIn K cd_Pattern_init "Pattern.__init__" = true)
    (k_Pattern_init : PySem.W.keepIn K (.ref f_Pattern_init) = true)
    (sa_Pattern_read : PySem.W.findCls K (.ref C) (.type "type") "read" = some (.get (.builtin "staticmethod.__get__") (.ref pr_Pattern_read) .none (.ref C)))
    (sc_Pattern_read : PySem.W.recIn K pr_Pattern_read "staticmethod" = some (.ref f_Pattern_read :: rest_Pattern_read))
    (l_Pattern_read : K.lookup f_Pattern_read = some ⟨oc_Pattern_read, od_Pattern_read, .func (PySem.W.fnOf "read" "Pattern.read" (defArgs s_Pattern_read) (defBody s_Pattern_read) (defScope s_Pattern_read) .none kV_Pattern_read dc_Pattern_read pm_Pattern_read an_Pattern_read cd_Pattern_read ct_Pattern_read), sl_Pattern_read⟩)
    (c_Pattern_read : PySem.W.codeIn K cd_Pattern_read "Pattern.read" = true)
    (k_Pattern_read : PySem.W.keepIn K (.ref f_Pattern_read) = true)
    (pa_Pattern_pieces : PySem.W.findIn K (.ref C) "pieces" = some (some (.ref pr_Pattern_pieces)))
    (pg_Pattern_pieces : PySem.W.specialIn K (.ref pr_Pattern_pieces) "__get__" = some (some (.builtin "property.__get__")))
    (pt_Pattern_pieces : PySem.W.takesIn K (.ref pr_Pattern_pieces) = some true)
    (pc_Pattern_pieces : PySem.W.recIn K pr_Pattern_pieces "property" = some (.ref f_Pattern_pieces :: rest_Pattern_pieces))
    (l_Pattern_pieces : K.lookup f_Pattern_pieces = some ⟨oc_Pattern_pieces, od_Pattern_pieces, .func (PySem.W.fnOf "pieces" "Pattern.pieces" (defArgs s_Pattern_pieces) (defBody s_Pattern_pieces) (defScope s_Pattern_pieces) .none kV_Pattern_pieces dc_Pattern_pieces pm_Pattern_pieces an_Pattern_pieces cd_Pattern_pieces ct_Pattern_pieces), sl_Pattern_pieces⟩)
    (c_Pattern_pieces : PySem.W.codeIn K cd_Pattern_pieces "Pattern.pieces" = true)
    (k_Pattern_pieces : PySem.W.keepIn K (.ref f_Pattern_pieces) = true)
    (kt_CNoneType : PySem.W.kitOne K (.type "NoneType") (.ref C) = some false)
    (kt_Cbool : PySem.W.kitOne K (.type "bool") (.ref C) = some false)
    (kt_Cint : PySem.W.kitOne K (.type "int") (.ref C) = some false)
    (kt_Cstr : PySem.W.kitOne K (.type "str") (.ref C) = some false)
    (kt_Clist : PySem.W.kitOne K (.type "list") (.ref C) = some false)
    (kt_Cdict : PySem.W.kitOne K (.type "dict") (.ref C) = some false)
    (kt_Ctuple : PySem.W.kitOne K (.type "tuple") (.ref C) = some false)
    (a_difference : PySem.W.nsIn K mainGlobals "difference" = some (some (.ref f_difference)))
    (l_difference : K.lookup f_difference = some ⟨oc_difference, od_difference, .func (PySem.W.fnOf "difference" "difference" (defArgs s_difference) (defBody s_difference) (defScope s_difference) .none kV_difference dc_difference pm_difference an_difference cd_difference ct_difference), sl_difference⟩)
    (c_difference : PySem.W.codeIn K cd_difference "difference" = true)
    (k_difference : PySem.W.keepIn K (.ref f_difference) = true)
    (a_sign_at : PySem.W.nsIn K mainGlobals "sign_at" = some (some (.ref f_sign_at)))
    (l_sign_at : K.lookup f_sign_at = some ⟨oc_sign_at, od_sign_at, .func (PySem.W.fnOf "sign_at" "sign_at" (defArgs s_sign_at) (defBody s_sign_at) (defScope s_sign_at) .none kV_sign_at dc_sign_at pm_sign_at an_sign_at cd_sign_at ct_sign_at), sl_sign_at⟩)
    (c_sign_at : PySem.W.codeIn K cd_sign_at "sign_at" = true)
    (k_sign_at : PySem.W.keepIn K (.ref f_sign_at) = true)
    (a_sign_far_out : PySem.W.nsIn K mainGlobals "sign_far_out" = some (some (.ref f_sign_far_out)))
    (l_sign_far_out : K.lookup f_sign_far_out = some ⟨oc_sign_far_out, od_sign_far_out, .func (PySem.W.fnOf "sign_far_out" "sign_far_out" (defArgs s_sign_far_out) (defBody s_sign_far_out) (defScope s_sign_far_out) .none kV_sign_far_out dc_sign_far_out pm_sign_far_out an_sign_far_out cd_sign_far_out ct_sign_far_out), sl_sign_far_out⟩)
    (c_sign_far_out : PySem.W.codeIn K cd_sign_far_out "sign_far_out" = true)
    (k_sign_far_out : PySem.W.keepIn K (.ref f_sign_far_out) = true)
    (a_sign_from : PySem.W.nsIn K mainGlobals "sign_from" = some (some (.ref f_sign_from)))
    (l_sign_from : K.lookup f_sign_from = some ⟨oc_sign_from, od_sign_from, .func (PySem.W.fnOf "sign_from" "sign_from" (defArgs s_sign_from) (defBody s_sign_from) (defScope s_sign_from) .none kV_sign_from dc_sign_from pm_sign_from an_sign_from cd_sign_from ct_sign_from), sl_sign_from⟩)
    (c_sign_from : PySem.W.codeIn K cd_sign_from "sign_from" = true)
    (k_sign_from : PySem.W.keepIn K (.ref f_sign_from) = true)
    (a_sign_towards : PySem.W.nsIn K mainGlobals "sign_towards" = some (some (.ref f_sign_towards)))
    (l_sign_towards : K.lookup f_sign_towards = some ⟨oc_sign_towards, od_sign_towards, .func (PySem.W.fnOf "sign_towards" "sign_towards" (defArgs s_sign_towards) (defBody s_sign_towards) (defScope s_sign_towards) .none kV_sign_towards dc_sign_towards pm_sign_towards an_sign_towards cd_sign_towards ct_sign_towards), sl_sign_towards⟩)
    (c_sign_towards : PySem.W.codeIn K cd_sign_towards "sign_towards" = true)
    (k_sign_towards : PySem.W.keepIn K (.ref f_sign_towards) = true)
    (a_limit_beside : PySem.W.nsIn K mainGlobals "limit_beside" = some (some (.ref f_limit_beside)))
    (l_limit_beside : K.lookup f_limit_beside = some ⟨oc_limit_beside, od_limit_beside, .func (PySem.W.fnOf "limit_beside" "limit_beside" (defArgs s_limit_beside) (defBody s_limit_beside) (defScope s_limit_beside) .none kV_limit_beside dc_limit_beside pm_limit_beside an_limit_beside cd_limit_beside ct_limit_beside), sl_limit_beside⟩)
    (c_limit_beside : PySem.W.codeIn K cd_limit_beside "limit_beside" = true)
    (k_limit_beside : PySem.W.keepIn K (.ref f_limit_beside) = true)
    (a_never_below : PySem.W.nsIn K mainGlobals "never_below" = some (some (.ref f_never_below)))
    (l_never_below : K.lookup f_never_below = some ⟨oc_never_below, od_never_below, .func (PySem.W.fnOf "never_below" "never_below" (defArgs s_never_below) (defBody s_never_below) (defScope s_never_below) .none kV_never_below dc_never_below pm_never_below an_never_below cd_never_below ct_never_below), sl_never_below⟩)
    (c_never_below : PySem.W.codeIn K cd_never_below "never_below" = true)
    (k_never_below : PySem.W.keepIn K (.ref f_never_below) = true)
    (a_square_root : PySem.W.nsIn K mainGlobals "square_root" = some (some (.ref f_square_root)))
    (l_square_root : K.lookup f_square_root = some ⟨oc_square_root, od_square_root, .func (PySem.W.fnOf "square_root" "square_root" (defArgs s_square_root) (defBody s_square_root) (defScope s_square_root) .none kV_square_root dc_square_root pm_square_root an_square_root cd_square_root ct_square_root), sl_square_root⟩)
    (c_square_root : PySem.W.codeIn K cd_square_root "square_root" = true)
    (k_square_root : PySem.W.keepIn K (.ref f_square_root) = true)
    (a_under_root : PySem.W.nsIn K mainGlobals "under_root" = some (some (.ref f_under_root)))
    (l_under_root : K.lookup f_under_root = some ⟨oc_under_root, od_under_root, .func (PySem.W.fnOf "under_root" "under_root" (defArgs s_under_root) (defBody s_under_root) (defScope s_under_root) .none kV_under_root dc_under_root pm_under_root an_under_root cd_under_root ct_under_root), sl_under_root⟩)
    (c_under_root : PySem.W.codeIn K cd_under_root "under_root" = true)
    (k_under_root : PySem.W.keepIn K (.ref f_under_root) = true)
    (a_equation_of_fraction : PySem.W.nsIn K mainGlobals "equation_of_fraction" = some (some (.ref f_equation_of_fraction)))
    (l_equation_of_fraction : K.lookup f_equation_of_fraction = some ⟨oc_equation_of_fraction, od_equation_of_fraction, .func (PySem.W.fnOf "equation_of_fraction" "equation_of_fraction" (defArgs s_equation_of_fraction) (defBody s_equation_of_fraction) (defScope s_equation_of_fraction) .none kV_equation_of_fraction dc_equation_of_fraction pm_equation_of_fraction an_equation_of_fraction cd_equation_of_fraction ct_equation_of_fraction), sl_equation_of_fraction⟩)
    (c_equation_of_fraction : PySem.W.codeIn K cd_equation_of_fraction "equation_of_fraction" = true)
    (k_equation_of_fraction : PySem.W.keepIn K (.ref f_equation_of_fraction) = true)
    (a_simplest_equation : PySem.W.nsIn K mainGlobals "simplest_equation" = some (some (.ref f_simplest_equation)))
    (l_simplest_equation : K.lookup f_simplest_equation = some ⟨oc_simplest_equation, od_simplest_equation, .func (PySem.W.fnOf "simplest_equation" "simplest_equation" (defArgs s_simplest_equation) (defBody s_simplest_equation) (defScope s_simplest_equation) .none kV_simplest_equation dc_simplest_equation pm_simplest_equation an_simplest_equation cd_simplest_equation ct_simplest_equation), sl_simplest_equation⟩)
    (c_simplest_equation : PySem.W.codeIn K cd_simplest_equation "simplest_equation" = true)
    (k_simplest_equation : PySem.W.keepIn K (.ref f_simplest_equation) = true)
    (a_Exact_init : PySem.W.findIn K (.ref Ce) "__init__" = some (some (.ref f_Exact_init)))
    (i_Exact_init : PySem.W.isFn K (.ref f_Exact_init) = true)
    (l_Exact_init : K.lookup f_Exact_init = some ⟨oc_Exact_init, od_Exact_init, .func (PySem.W.fnOf "__init__" "Exact.__init__" (defArgs s_Exact_init) (defBody s_Exact_init) (defScope s_Exact_init) .none kV_Exact_init dc_Exact_init pm_Exact_init an_Exact_init cd_Exact_init ct_Exact_init), sl_Exact_init⟩)
    (c_Exact_init : PySem.W.codeIn K cd_Exact_init "Exact.__init__" = true)
    (k_Exact_init : PySem.W.keepIn K (.ref f_Exact_init) = true)
    (a_Exact_eq : PySem.W.findIn K (.ref Ce) "__eq__" = some (some (.ref f_Exact_eq)))
    (i_Exact_eq : PySem.W.isFn K (.ref f_Exact_eq) = true)
    (l_Exact_eq : K.lookup f_Exact_eq = some ⟨oc_Exact_eq, od_Exact_eq, .func (PySem.W.fnOf "__eq__" "Exact.__eq__" (defArgs s_Exact_eq) (defBody s_Exact_eq) (defScope s_Exact_eq) .none kV_Exact_eq dc_Exact_eq pm_Exact_eq an_Exact_eq cd_Exact_eq ct_Exact_eq), sl_Exact_eq⟩)
    (c_Exact_eq : PySem.W.codeIn K cd_Exact_eq "Exact.__eq__" = true)
    (k_Exact_eq : PySem.W.keepIn K (.ref f_Exact_eq) = true)
    (pa_Exact_equation : PySem.W.findIn K (.ref Ce) "equation" = some (some (.ref pr_Exact_equation)))
    (pg_Exact_equation : PySem.W.specialIn K (.ref pr_Exact_equation) "__get__" = some (some (.builtin "property.__get__")))
    (pt_Exact_equation : PySem.W.takesIn K (.ref pr_Exact_equation) = some true)
    (pc_Exact_equation : PySem.W.recIn K pr_Exact_equation "property" = some (.ref f_Exact_equation :: rest_Exact_equation))
    (l_Exact_equation : K.lookup f_Exact_equation = some ⟨oc_Exact_equation, od_Exact_equation, .func (PySem.W.fnOf "equation" "Exact.equation" (defArgs s_Exact_equation) (defBody s_Exact_equation) (defScope s_Exact_equation) .none kV_Exact_equation dc_Exact_equation pm_Exact_equation an_Exact_equation cd_Exact_equation ct_Exact_equation), sl_Exact_equation⟩)
    (c_Exact_equation : PySem.W.codeIn K cd_Exact_equation "Exact.equation" = true)
    (k_Exact_equation : PySem.W.keepIn K (.ref f_Exact_equation) = true)
    (a_ladder_limit : PySem.W.nsIn K mainGlobals "ladder_limit" = some (some (.ref f_ladder_limit)))
    (l_ladder_limit : K.lookup f_ladder_limit = some ⟨oc_ladder_limit, od_ladder_limit, .func (PySem.W.fnOf "ladder_limit" "ladder_limit" (defArgs s_ladder_limit) (defBody s_ladder_limit) (defScope s_ladder_limit) .none kV_ladder_limit dc_ladder_limit pm_ladder_limit an_ladder_limit cd_ladder_limit ct_ladder_limit), sl_ladder_limit⟩)
    (c_ladder_limit : PySem.W.codeIn K cd_ladder_limit "ladder_limit" = true)
    (k_ladder_limit : PySem.W.keepIn K (.ref f_ladder_limit) = true)
    (a_check_pattern : PySem.W.nsIn K mainGlobals "check_pattern" = some (some (.ref f_check_pattern)))
    (l_check_pattern : K.lookup f_check_pattern = some ⟨oc_check_pattern, od_check_pattern, .func (PySem.W.fnOf "check_pattern" "check_pattern" (defArgs s_check_pattern) (defBody s_check_pattern) (defScope s_check_pattern) .none kV_check_pattern dc_check_pattern pm_check_pattern an_check_pattern cd_check_pattern ct_check_pattern), sl_check_pattern⟩)
    (c_check_pattern : PySem.W.codeIn K cd_check_pattern "check_pattern" = true)
    (k_check_pattern : PySem.W.keepIn K (.ref f_check_pattern) = true)
    (a_check_resistance : PySem.W.nsIn K mainGlobals "check_resistance" = some (some (.ref f_check_resistance)))
    (l_check_resistance : K.lookup f_check_resistance = some ⟨oc_check_resistance, od_check_resistance, .func (PySem.W.fnOf "check_resistance" "check_resistance" (defArgs s_check_resistance) (defBody s_check_resistance) (defScope s_check_resistance) .none kV_check_resistance dc_check_resistance pm_check_resistance an_check_resistance cd_check_resistance ct_check_resistance), sl_check_resistance⟩)
    (c_check_resistance : PySem.W.codeIn K cd_check_resistance "check_resistance" = true)
    (k_check_resistance : PySem.W.keepIn K (.ref f_check_resistance) = true)
    (a_times : PySem.W.nsIn K mainGlobals "times" = some (some (.ref f_times)))
    (l_times : K.lookup f_times = some ⟨oc_times, od_times, .func (PySem.W.fnOf "times" "times" (defArgs s_times) (defBody s_times) (defScope s_times) .none kV_times dc_times pm_times an_times cd_times ct_times), sl_times⟩)
    (c_times : PySem.W.codeIn K cd_times "times" = true)
    (k_times : PySem.W.keepIn K (.ref f_times) = true)
    (a_more_load : PySem.W.nsIn K mainGlobals "more_load" = some (some (.ref f_more_load)))
    (l_more_load : K.lookup f_more_load = some ⟨oc_more_load, od_more_load, .func (PySem.W.fnOf "more_load" "more_load" (defArgs s_more_load) (defBody s_more_load) (defScope s_more_load) .none kV_more_load dc_more_load pm_more_load an_more_load cd_more_load ct_more_load), sl_more_load⟩)
    (c_more_load : PySem.W.codeIn K cd_more_load "more_load" = true)
    (k_more_load : PySem.W.keepIn K (.ref f_more_load) = true)
    (a_certify_never : PySem.W.nsIn K mainGlobals "certify_never" = some (some (.ref f_certify_never)))
    (l_certify_never : K.lookup f_certify_never = some ⟨oc_certify_never, od_certify_never, .func (PySem.W.fnOf "certify_never" "certify_never" (defArgs s_certify_never) (defBody s_certify_never) (defScope s_certify_never) .none kV_certify_never dc_certify_never pm_certify_never an_certify_never cd_certify_never ct_certify_never), sl_certify_never⟩)
    (c_certify_never : PySem.W.codeIn K cd_certify_never "certify_never" = true)
    (k_certify_never : PySem.W.keepIn K (.ref f_certify_never) = true)
    (a_certify_limit : PySem.W.nsIn K mainGlobals "certify_limit" = some (some (.ref f_certify_limit)))
    (l_certify_limit : K.lookup f_certify_limit = some ⟨oc_certify_limit, od_certify_limit, .func (PySem.W.fnOf "certify_limit" "certify_limit" (defArgs s_certify_limit) (defBody s_certify_limit) (defScope s_certify_limit) .none kV_certify_limit dc_certify_limit pm_certify_limit an_certify_limit cd_certify_limit ct_certify_limit), sl_certify_limit⟩)
    (c_certify_limit : PySem.W.codeIn K cd_certify_limit "certify_limit" = true)
    (k_certify_limit : PySem.W.keepIn K (.ref f_certify_limit) = true)
    (a_check_never : PySem.W.nsIn K mainGlobals "check_never" = some (some (.ref f_check_never)))
    (l_check_never : K.lookup f_check_never = some ⟨oc_check_never, od_check_never, .func (PySem.W.fnOf "check_never" "check_never" (defArgs s_check_never) (defBody s_check_never) (defScope s_check_never) .none kV_check_never dc_check_never pm_check_never an_check_never cd_check_never ct_check_never), sl_check_never⟩)
    (c_check_never : PySem.W.codeIn K cd_check_never "check_never" = true)
    (k_check_never : PySem.W.keepIn K (.ref f_check_never) = true)
    (a_check_more : PySem.W.nsIn K mainGlobals "check_more" = some (some (.ref f_check_more)))
    (l_check_more : K.lookup f_check_more = some ⟨oc_check_more, od_check_more, .func (PySem.W.fnOf "check_more" "check_more" (defArgs s_check_more) (defBody s_check_more) (defScope s_check_more) .none kV_check_more dc_check_more pm_check_more an_check_more cd_check_more ct_check_more), sl_check_more⟩)
    (c_check_more : PySem.W.codeIn K cd_check_more "check_more" = true)
    (k_check_more : PySem.W.keepIn K (.ref f_check_more) = true)
    (a_check_limit : PySem.W.nsIn K mainGlobals "check_limit" = some (some (.ref f_check_limit)))
    (l_check_limit : K.lookup f_check_limit = some ⟨oc_check_limit, od_check_limit, .func (PySem.W.fnOf "check_limit" "check_limit" (defArgs s_check_limit) (defBody s_check_limit) (defScope s_check_limit) .none kV_check_limit dc_check_limit pm_check_limit an_check_limit cd_check_limit ct_check_limit), sl_check_limit⟩)
    (c_check_limit : PySem.W.codeIn K cd_check_limit "check_limit" = true)
    (k_check_limit : PySem.W.keepIn K (.ref f_check_limit) = true)
    (kr_kn : PySem.W.nsIn K aCh "never" = some (some (.ref f_check_never)))
    (kr_ko : PySem.W.nsIn K aCh "more" = some (some (.ref f_check_more)))
    (kr_kl : PySem.W.nsIn K aCh "limit" = some (some (.ref f_check_limit)))
    (kr_nd : decide ([f_check_never, f_check_more, f_check_limit].Nodup) = true)
    (a_accepts : PySem.W.nsIn K mainGlobals "accepts" = some (some (.ref f_accepts)))
    (l_accepts : K.lookup f_accepts = some ⟨oc_accepts, od_accepts, .func (PySem.W.fnOf "accepts" "accepts" (defArgs s_accepts) (defBody s_accepts) (defScope s_accepts) .none kV_accepts dc_accepts pm_accepts an_accepts cd_accepts ct_accepts), sl_accepts⟩)
    (c_accepts : PySem.W.codeIn K cd_accepts "accepts" = true)
    (k_accepts : PySem.W.keepIn K (.ref f_accepts) = true)
    (aX0 : PySem.W.nsIn K mainGlobals "NotAPattern" = some (some (.ref X0)))
    (aX1 : PySem.W.nsIn K mainGlobals "NotARun" = some (some (.ref X1)))
    (aX2 : PySem.W.nsIn K mainGlobals "InvalidResistance" = some (some (.ref X2)))
    (aX3 : PySem.W.nsIn K mainGlobals "InvalidCount" = some (some (.ref X3)))
    (aX4 : PySem.W.nsIn K mainGlobals "InvalidText" = some (some (.ref X4)))
    (aX5 : PySem.W.nsIn K mainGlobals "InvalidName" = some (some (.ref X5)))
    (aX6 : PySem.W.nsIn K mainGlobals "InvalidClaim" = some (some (.ref X6)))
    (aX7 : PySem.W.nsIn K mainGlobals "InvalidIndex" = some (some (.ref X7)))
    (aX8 : PySem.W.nsIn K mainGlobals "InvalidDeeds" = some (some (.ref X8)))
    (aX9 : PySem.W.nsIn K mainGlobals "UnknownName" = some (some (.ref X9)))
    (aX10 : PySem.W.nsIn K mainGlobals "InUse" = some (some (.ref X10)))
    (aX11 : PySem.W.nsIn K mainGlobals "TooMany" = some (some (.ref X11)))
    (aX12 : PySem.W.nsIn K mainGlobals "Broken" = some (some (.ref X12)))
    (aX13 : PySem.W.nsIn K mainGlobals "NoLimit" = some (some (.ref X13)))
    (aX14 : PySem.W.nsIn K mainGlobals "NothingToUndo" = some (some (.ref X14)))
    (aX15 : PySem.W.nsIn K mainGlobals "WrongValue" = some (some (.ref X15)))
    (aX16 : PySem.W.nsIn K mainGlobals "WrongName" = some (some (.ref X16)))
    (aX17 : PySem.W.nsIn K mainGlobals "NoAnswer" = some (some (.ref X17)))
    (a_WrongValue_init : PySem.W.findIn K (.ref X15) "__init__" = some (some (.ref f_WrongValue_init)))
    (i_WrongValue_init : PySem.W.isFn K (.ref f_WrongValue_init) = true)
    (l_WrongValue_init : K.lookup f_WrongValue_init = some ⟨oc_WrongValue_init, od_WrongValue_init, .func (PySem.W.fnOf "__init__" "WrongValue.__init__" (defArgs s_WrongValue_init) (defBody s_WrongValue_init) (defScope s_WrongValue_init) .none kV_WrongValue_init dc_WrongValue_init pm_WrongValue_init an_WrongValue_init cd_WrongValue_init ct_WrongValue_init), sl_WrongValue_init⟩)
    (c_WrongValue_init : PySem.W.codeIn K cd_WrongValue_init "WrongValue.__init__" = true)
    (k_WrongValue_init : PySem.W.keepIn K (.ref f_WrongValue_init) = true)
    (rd_15 : PySem.W.readsIn K X15 (.type "type") = true)
    (ga_15 : PySem.W.specialIn K (.ref X15) "__getattribute__" = some (some (.builtin "type.__getattribute__")))
    (fc_15 : PySem.W.findCls K (.ref X15) (.type "type") "__init__" = some (.val (.ref f_WrongValue_init)))
    (a_NotAPattern_init : PySem.W.findIn K (.ref X0) "__init__" = some (some (.ref f_NotAPattern_init)))
    (i_NotAPattern_init : PySem.W.isFn K (.ref f_NotAPattern_init) = true)
    (l_NotAPattern_init : K.lookup f_NotAPattern_init = some ⟨oc_NotAPattern_init, od_NotAPattern_init, .func (PySem.W.fnOf "__init__" "NotAPattern.__init__" (defArgs s_NotAPattern_init) (defBody s_NotAPattern_init) (defScope s_NotAPattern_init) .none kV_NotAPattern_init dc_NotAPattern_init pm_NotAPattern_init an_NotAPattern_init cd_NotAPattern_init ct_NotAPattern_init), sl_NotAPattern_init⟩)
    (c_NotAPattern_init : PySem.W.codeIn K cd_NotAPattern_init "NotAPattern.__init__" = true)
    (k_NotAPattern_init : PySem.W.keepIn K (.ref f_NotAPattern_init) = true)
    (xb_0 : xcB K X0 [.type "ValueError", .type "Exception", .type "BaseException", .type "object"] "ValueError.__new__" = true)
    (ro_0 : rowBF K [X0, X1, X2, X3, X4, X5, X6, X7, X8, X9, X10, X11, X12, X13, X14, X15, X16, X17] 0 = true)
    (any_0 : PySem.W.exmAny K (.ref X0) [.ref X15, .ref X16, .ref X17] = some true)
    (ty_0 : PySem.W.typeIn K (.ref X0) = some (.type "type"))
    (no_0 : PySem.W.findIn K (.ref X0) "given" = some none)
    (a_InvalidResistance_init : PySem.W.findIn K (.ref X2) "__init__" = some (some (.ref f_InvalidResistance_init)))
    (i_InvalidResistance_init : PySem.W.isFn K (.ref f_InvalidResistance_init) = true)
    (l_InvalidResistance_init : K.lookup f_InvalidResistance_init = some ⟨oc_InvalidResistance_init, od_InvalidResistance_init, .func (PySem.W.fnOf "__init__" "InvalidResistance.__init__" (defArgs s_InvalidResistance_init) (defBody s_InvalidResistance_init) (defScope s_InvalidResistance_init) .none kV_InvalidResistance_init dc_InvalidResistance_init pm_InvalidResistance_init an_InvalidResistance_init cd_InvalidResistance_init ct_InvalidResistance_init), sl_InvalidResistance_init⟩)
    (c_InvalidResistance_init : PySem.W.codeIn K cd_InvalidResistance_init "InvalidResistance.__init__" = true)
    (k_InvalidResistance_init : PySem.W.keepIn K (.ref f_InvalidResistance_init) = true)
    (xb_2 : xcB K X2 [.type "ValueError", .type "Exception", .type "BaseException", .type "object"] "ValueError.__new__" = true)
    (ro_2 : rowBF K [X0, X1, X2, X3, X4, X5, X6, X7, X8, X9, X10, X11, X12, X13, X14, X15, X16, X17] 2 = true)
    (any_2 : PySem.W.exmAny K (.ref X2) [.ref X15, .ref X16, .ref X17] = some true)
    (ty_2 : PySem.W.typeIn K (.ref X2) = some (.type "type"))
    (no_2 : PySem.W.findIn K (.ref X2) "given" = some none)
    (a_law_error : PySem.W.nsIn K mainGlobals "_law_error" = some (some (.ref f_law_error)))
    (l_law_error : K.lookup f_law_error = some ⟨oc_law_error, od_law_error, .func (PySem.W.fnOf "_law_error" "_law_error" (defArgs s_law_error) (defBody s_law_error) (defScope s_law_error) .none kV_law_error dc_law_error pm_law_error an_law_error cd_law_error ct_law_error), sl_law_error⟩)
    (c_law_error : PySem.W.codeIn K cd_law_error "_law_error" = true)
    (k_law_error : PySem.W.keepIn K (.ref f_law_error) = true)
    (a_law_told : PySem.W.nsIn K mainGlobals "_law_told" = some (some (.ref f_law_told)))
    (l_law_told : K.lookup f_law_told = some ⟨oc_law_told, od_law_told, .func (PySem.W.fnOf "_law_told" "_law_told" (defArgs s_law_told) (defBody s_law_told) (defScope s_law_told) .none kV_law_told dc_law_told pm_law_told an_law_told cd_law_told ct_law_told), sl_law_told⟩)
    (c_law_told : PySem.W.codeIn K cd_law_told "_law_told" = true)
    (k_law_told : PySem.W.keepIn K (.ref f_law_told) = true)
    (a_law_cell : PySem.W.nsIn K mainGlobals "_law_cell" = some (some (.ref f_law_cell)))
    (l_law_cell : K.lookup f_law_cell = some ⟨oc_law_cell, od_law_cell, .func (PySem.W.fnOf "_law_cell" "_law_cell" (defArgs s_law_cell) (defBody s_law_cell) (defScope s_law_cell) .none kV_law_cell dc_law_cell pm_law_cell an_law_cell cd_law_cell ct_law_cell), sl_law_cell⟩)
    (c_law_cell : PySem.W.codeIn K cd_law_cell "_law_cell" = true)
    (k_law_cell : PySem.W.keepIn K (.ref f_law_cell) = true)
    (a_law_src : PySem.W.nsIn K mainGlobals "_law_src" = some (some (.ref f_law_src)))
    (l_law_src : K.lookup f_law_src = some ⟨oc_law_src, od_law_src, .func (PySem.W.fnOf "_law_src" "_law_src" (defArgs s_law_src) (defBody s_law_src) (defScope s_law_src) .none kV_law_src dc_law_src pm_law_src an_law_src cd_law_src ct_law_src), sl_law_src⟩)
    (c_law_src : PySem.W.codeIn K cd_law_src "_law_src" = true)
    (k_law_src : PySem.W.keepIn K (.ref f_law_src) = true)
    (a_law_pick : PySem.W.nsIn K mainGlobals "_law_pick" = some (some (.ref f_law_pick)))
    (l_law_pick : K.lookup f_law_pick = some ⟨oc_law_pick, od_law_pick, .func (PySem.W.fnOf "_law_pick" "_law_pick" (defArgs s_law_pick) (defBody s_law_pick) (defScope s_law_pick) .none kV_law_pick dc_law_pick pm_law_pick an_law_pick cd_law_pick ct_law_pick), sl_law_pick⟩)
    (c_law_pick : PySem.W.codeIn K cd_law_pick "_law_pick" = true)
    (k_law_pick : PySem.W.keepIn K (.ref f_law_pick) = true)
    (a_law_lowest : PySem.W.nsIn K mainGlobals "_law_lowest" = some (some (.ref f_law_lowest)))
    (l_law_lowest : K.lookup f_law_lowest = some ⟨oc_law_lowest, od_law_lowest, .func (PySem.W.fnOf "_law_lowest" "_law_lowest" (defArgs s_law_lowest) (defBody s_law_lowest) (defScope s_law_lowest) .none kV_law_lowest dc_law_lowest pm_law_lowest an_law_lowest cd_law_lowest ct_law_lowest), sl_law_lowest⟩)
    (c_law_lowest : PySem.W.codeIn K cd_law_lowest "_law_lowest" = true)
    (k_law_lowest : PySem.W.keepIn K (.ref f_law_lowest) = true)
    (a_law_frac : PySem.W.nsIn K mainGlobals "_law_frac" = some (some (.ref f_law_frac)))
    (l_law_frac : K.lookup f_law_frac = some ⟨oc_law_frac, od_law_frac, .func (PySem.W.fnOf "_law_frac" "_law_frac" (defArgs s_law_frac) (defBody s_law_frac) (defScope s_law_frac) .none kV_law_frac dc_law_frac pm_law_frac an_law_frac cd_law_frac ct_law_frac), sl_law_frac⟩)
    (c_law_frac : PySem.W.codeIn K cd_law_frac "_law_frac" = true)
    (k_law_frac : PySem.W.keepIn K (.ref f_law_frac) = true)
    (a_law_led : PySem.W.nsIn K mainGlobals "_law_led" = some (some (.ref f_law_led)))
    (l_law_led : K.lookup f_law_led = some ⟨oc_law_led, od_law_led, .func (PySem.W.fnOf "_law_led" "_law_led" (defArgs s_law_led) (defBody s_law_led) (defScope s_law_led) .none kV_law_led dc_law_led pm_law_led an_law_led cd_law_led ct_law_led), sl_law_led⟩)
    (c_law_led : PySem.W.codeIn K cd_law_led "_law_led" = true)
    (k_law_led : PySem.W.keepIn K (.ref f_law_led) = true)
    (a_law_is_load : PySem.W.nsIn K mainGlobals "_law_is_load" = some (some (.ref f_law_is_load)))
    (l_law_is_load : K.lookup f_law_is_load = some ⟨oc_law_is_load, od_law_is_load, .func (PySem.W.fnOf "_law_is_load" "_law_is_load" (defArgs s_law_is_load) (defBody s_law_is_load) (defScope s_law_is_load) .none kV_law_is_load dc_law_is_load pm_law_is_load an_law_is_load cd_law_is_load ct_law_is_load), sl_law_is_load⟩)
    (c_law_is_load : PySem.W.codeIn K cd_law_is_load "_law_is_load" = true)
    (k_law_is_load : PySem.W.keepIn K (.ref f_law_is_load) = true)
    (a_law_is_number : PySem.W.nsIn K mainGlobals "_law_is_number" = some (some (.ref f_law_is_number)))
    (l_law_is_number : K.lookup f_law_is_number = some ⟨oc_law_is_number, od_law_is_number, .func (PySem.W.fnOf "_law_is_number" "_law_is_number" (defArgs s_law_is_number) (defBody s_law_is_number) (defScope s_law_is_number) .none kV_law_is_number dc_law_is_number pm_law_is_number an_law_is_number cd_law_is_number ct_law_is_number), sl_law_is_number⟩)
    (c_law_is_number : PySem.W.codeIn K cd_law_is_number "_law_is_number" = true)
    (k_law_is_number : PySem.W.keepIn K (.ref f_law_is_number) = true)
    (a_law_anyrow : PySem.W.nsIn K mainGlobals "_law_anyrow" = some (some (.ref f_law_anyrow)))
    (l_law_anyrow : K.lookup f_law_anyrow = some ⟨oc_law_anyrow, od_law_anyrow, .func (PySem.W.fnOf "_law_anyrow" "_law_anyrow" (defArgs s_law_anyrow) (defBody s_law_anyrow) (defScope s_law_anyrow) .none kV_law_anyrow dc_law_anyrow pm_law_anyrow an_law_anyrow cd_law_anyrow ct_law_anyrow), sl_law_anyrow⟩)
    (c_law_anyrow : PySem.W.codeIn K cd_law_anyrow "_law_anyrow" = true)
    (k_law_anyrow : PySem.W.keepIn K (.ref f_law_anyrow) = true)
    (a_law_anyload : PySem.W.nsIn K mainGlobals "_law_anyload" = some (some (.ref f_law_anyload)))
    (l_law_anyload : K.lookup f_law_anyload = some ⟨oc_law_anyload, od_law_anyload, .func (PySem.W.fnOf "_law_anyload" "_law_anyload" (defArgs s_law_anyload) (defBody s_law_anyload) (defScope s_law_anyload) .none kV_law_anyload dc_law_anyload pm_law_anyload an_law_anyload cd_law_anyload ct_law_anyload), sl_law_anyload⟩)
    (c_law_anyload : PySem.W.codeIn K cd_law_anyload "_law_anyload" = true)
    (k_law_anyload : PySem.W.keepIn K (.ref f_law_anyload) = true)
    (a_law_sign : PySem.W.nsIn K mainGlobals "_law_sign" = some (some (.ref f_law_sign)))
    (l_law_sign : K.lookup f_law_sign = some ⟨oc_law_sign, od_law_sign, .func (PySem.W.fnOf "_law_sign" "_law_sign" (defArgs s_law_sign) (defBody s_law_sign) (defScope s_law_sign) .none kV_law_sign dc_law_sign pm_law_sign an_law_sign cd_law_sign ct_law_sign), sl_law_sign⟩)
    (c_law_sign : PySem.W.codeIn K cd_law_sign "_law_sign" = true)
    (k_law_sign : PySem.W.keepIn K (.ref f_law_sign) = true)
    (a_law_never : PySem.W.nsIn K mainGlobals "_law_never" = some (some (.ref f_law_never)))
    (l_law_never : K.lookup f_law_never = some ⟨oc_law_never, od_law_never, .func (PySem.W.fnOf "_law_never" "_law_never" (defArgs s_law_never) (defBody s_law_never) (defScope s_law_never) .none kV_law_never dc_law_never pm_law_never an_law_never cd_law_never ct_law_never), sl_law_never⟩)
    (c_law_never : PySem.W.codeIn K cd_law_never "_law_never" = true)
    (k_law_never : PySem.W.keepIn K (.ref f_law_never) = true)
    (a_law_isqrt : PySem.W.nsIn K mainGlobals "_law_isqrt" = some (some (.ref f_law_isqrt)))
    (l_law_isqrt : K.lookup f_law_isqrt = some ⟨oc_law_isqrt, od_law_isqrt, .func (PySem.W.fnOf "_law_isqrt" "_law_isqrt" (defArgs s_law_isqrt) (defBody s_law_isqrt) (defScope s_law_isqrt) .none kV_law_isqrt dc_law_isqrt pm_law_isqrt an_law_isqrt cd_law_isqrt ct_law_isqrt), sl_law_isqrt⟩)
    (c_law_isqrt : PySem.W.codeIn K cd_law_isqrt "_law_isqrt" = true)
    (k_law_isqrt : PySem.W.keepIn K (.ref f_law_isqrt) = true)
    (a_law_limit : PySem.W.nsIn K mainGlobals "_law_limit" = some (some (.ref f_law_limit)))
    (l_law_limit : K.lookup f_law_limit = some ⟨oc_law_limit, od_law_limit, .func (PySem.W.fnOf "_law_limit" "_law_limit" (defArgs s_law_limit) (defBody s_law_limit) (defScope s_law_limit) .none kV_law_limit dc_law_limit pm_law_limit an_law_limit cd_law_limit ct_law_limit), sl_law_limit⟩)
    (c_law_limit : PySem.W.codeIn K cd_law_limit "_law_limit" = true)
    (k_law_limit : PySem.W.keepIn K (.ref f_law_limit) = true)
    (a_law_even : PySem.W.nsIn K mainGlobals "_law_even" = some (some (.ref f_law_even)))
    (l_law_even : K.lookup f_law_even = some ⟨oc_law_even, od_law_even, .func (PySem.W.fnOf "_law_even" "_law_even" (defArgs s_law_even) (defBody s_law_even) (defScope s_law_even) .none kV_law_even dc_law_even pm_law_even an_law_even cd_law_even ct_law_even), sl_law_even⟩)
    (c_law_even : PySem.W.codeIn K cd_law_even "_law_even" = true)
    (k_law_even : PySem.W.keepIn K (.ref f_law_even) = true)
    (a_law_some_row : PySem.W.nsIn K mainGlobals "_law_some_row" = some (some (.ref f_law_some_row)))
    (l_law_some_row : K.lookup f_law_some_row = some ⟨oc_law_some_row, od_law_some_row, .func (PySem.W.fnOf "_law_some_row" "_law_some_row" (defArgs s_law_some_row) (defBody s_law_some_row) (defScope s_law_some_row) .none kV_law_some_row dc_law_some_row pm_law_some_row an_law_some_row cd_law_some_row ct_law_some_row), sl_law_some_row⟩)
    (c_law_some_row : PySem.W.codeIn K cd_law_some_row "_law_some_row" = true)
    (k_law_some_row : PySem.W.keepIn K (.ref f_law_some_row) = true)
    (a_law_near : PySem.W.nsIn K mainGlobals "_law_near" = some (some (.ref f_law_near)))
    (l_law_near : K.lookup f_law_near = some ⟨oc_law_near, od_law_near, .func (PySem.W.fnOf "_law_near" "_law_near" (defArgs s_law_near) (defBody s_law_near) (defScope s_law_near) .none kV_law_near dc_law_near pm_law_near an_law_near cd_law_near ct_law_near), sl_law_near⟩)
    (c_law_near : PySem.W.codeIn K cd_law_near "_law_near" = true)
    (k_law_near : PySem.W.keepIn K (.ref f_law_near) = true)
    (a_law_crossing : PySem.W.nsIn K mainGlobals "_law_crossing" = some (some (.ref f_law_crossing)))
    (l_law_crossing : K.lookup f_law_crossing = some ⟨oc_law_crossing, od_law_crossing, .func (PySem.W.fnOf "_law_crossing" "_law_crossing" (defArgs s_law_crossing) (defBody s_law_crossing) (defScope s_law_crossing) .none kV_law_crossing dc_law_crossing pm_law_crossing an_law_crossing cd_law_crossing ct_law_crossing), sl_law_crossing⟩)
    (c_law_crossing : PySem.W.codeIn K cd_law_crossing "_law_crossing" = true)
    (k_law_crossing : PySem.W.keepIn K (.ref f_law_crossing) = true)
    (a_law_text : PySem.W.nsIn K mainGlobals "_law_text" = some (some (.ref f_law_text)))
    (l_law_text : K.lookup f_law_text = some ⟨oc_law_text, od_law_text, .func (PySem.W.fnOf "_law_text" "_law_text" (defArgs s_law_text) (defBody s_law_text) (defScope s_law_text) .none kV_law_text dc_law_text pm_law_text an_law_text cd_law_text ct_law_text), sl_law_text⟩)
    (c_law_text : PySem.W.codeIn K cd_law_text "_law_text" = true)
    (k_law_text : PySem.W.keepIn K (.ref f_law_text) = true)
    (a_law_pat : PySem.W.nsIn K mainGlobals "_law_pat" = some (some (.ref f_law_pat)))
    (l_law_pat : K.lookup f_law_pat = some ⟨oc_law_pat, od_law_pat, .func (PySem.W.fnOf "_law_pat" "_law_pat" (defArgs s_law_pat) (defBody s_law_pat) (defScope s_law_pat) .none kV_law_pat dc_law_pat pm_law_pat an_law_pat cd_law_pat ct_law_pat), sl_law_pat⟩)
    (c_law_pat : PySem.W.codeIn K cd_law_pat "_law_pat" = true)
    (k_law_pat : PySem.W.keepIn K (.ref f_law_pat) = true)
    (a_law_never_right : PySem.W.nsIn K mainGlobals "_law_never_right" = some (some (.ref f_law_never_right)))
    (l_law_never_right : K.lookup f_law_never_right = some ⟨oc_law_never_right, od_law_never_right, .func (PySem.W.fnOf "_law_never_right" "_law_never_right" (defArgs s_law_never_right) (defBody s_law_never_right) (defScope s_law_never_right) .none kV_law_never_right dc_law_never_right pm_law_never_right an_law_never_right cd_law_never_right ct_law_never_right), sl_law_never_right⟩)
    (c_law_never_right : PySem.W.codeIn K cd_law_never_right "_law_never_right" = true)
    (k_law_never_right : PySem.W.keepIn K (.ref f_law_never_right) = true)
    (a_law_limit_right : PySem.W.nsIn K mainGlobals "_law_limit_right" = some (some (.ref f_law_limit_right)))
    (l_law_limit_right : K.lookup f_law_limit_right = some ⟨oc_law_limit_right, od_law_limit_right, .func (PySem.W.fnOf "_law_limit_right" "_law_limit_right" (defArgs s_law_limit_right) (defBody s_law_limit_right) (defScope s_law_limit_right) .none kV_law_limit_right dc_law_limit_right pm_law_limit_right an_law_limit_right cd_law_limit_right ct_law_limit_right), sl_law_limit_right⟩)
    (c_law_limit_right : PySem.W.codeIn K cd_law_limit_right "_law_limit_right" = true)
    (k_law_limit_right : PySem.W.keepIn K (.ref f_law_limit_right) = true)
    (a_law_refused_right : PySem.W.nsIn K mainGlobals "_law_refused_right" = some (some (.ref f_law_refused_right)))
    (l_law_refused_right : K.lookup f_law_refused_right = some ⟨oc_law_refused_right, od_law_refused_right, .func (PySem.W.fnOf "_law_refused_right" "_law_refused_right" (defArgs s_law_refused_right) (defBody s_law_refused_right) (defScope s_law_refused_right) .none kV_law_refused_right dc_law_refused_right pm_law_refused_right an_law_refused_right cd_law_refused_right ct_law_refused_right), sl_law_refused_right⟩)
    (c_law_refused_right : PySem.W.codeIn K cd_law_refused_right "_law_refused_right" = true)
    (k_law_refused_right : PySem.W.keepIn K (.ref f_law_refused_right) = true)
    (e_law_refused_right : cd_law_refused_right = .ref cA_law_refused_right)
    (lc_law_refused_right : K.lookup cA_law_refused_right = some ⟨.type "code", dC_law_refused_right, .fields vC_law_refused_right, sC_law_refused_right⟩)
    (pl_law_refused_right : (vC_law_refused_right[11]? : Option Value) = some (.ref PA_law_refused_right))
    (ch_law_refused_right : PySem.W.codeHdIn K cA_law_refused_right PA_law_refused_right = true)
    (tt_law_refused_right : h.get? PA_law_refused_right = some (PySem.W.tabObj #[]))
    (kn_law_refused_right : K.lookup PA_law_refused_right = none)
    (a_law_right : PySem.W.nsIn K mainGlobals "_law_right" = some (some (.ref f_law_right)))
    (l_law_right : K.lookup f_law_right = some ⟨oc_law_right, od_law_right, .func (PySem.W.fnOf "_law_right" "_law_right" (defArgs s_law_right) (defBody s_law_right) (defScope s_law_right) .none kV_law_right dc_law_right pm_law_right an_law_right cd_law_right ct_law_right), sl_law_right⟩)
    (c_law_right : PySem.W.codeIn K cd_law_right "_law_right" = true)
    (k_law_right : PySem.W.keepIn K (.ref f_law_right) = true)
    (a_law : PySem.W.nsIn K mainGlobals "law" = some (some (.ref f_law)))
    (l_law : K.lookup f_law = some ⟨oc_law, od_law, .func (PySem.W.fnOf "law" "law" (defArgs s_law) (defBody s_law) (defScope s_law) .none kV_law dc_law pm_law an_law cd_law ct_law), sl_law⟩)
    (c_law : PySem.W.codeIn K cd_law "law" = true)
    (k_law : PySem.W.keepIn K (.ref f_law) = true)
    (e_law : cd_law = .ref cA_law)
    (lc_law : K.lookup cA_law = some ⟨.type "code", dC_law, .fields vC_law, sC_law⟩)
    (pl_law : (vC_law[11]? : Option Value) = some (.ref PA_law))
    (ch_law : PySem.W.codeHdIn K cA_law PA_law = true)
    (tt_law : h.get? PA_law = some (PySem.W.tabObj #[]))
    (kn_law : K.lookup PA_law = none)
    (ne_law_refused_right_law : PA_law_refused_right ≠ PA_law)
    (ne_law_law_refused_right : PA_law ≠ PA_law_refused_right) :
    LawT l w K 14 63 "_law_script" mg fa h := by
  have e := hfa.symm.trans (PySem.W.mg_of X G a_law)
  cases e
  subst e_law_refused_right
  subst e_law
  have T : TxtX K mg w tG t1 t3 tC tK tP aO aW aCh Ce := { len := PySem.W.mg_none_of X G z_len, abs := PySem.W.mg_none_of X G z_abs, int_ := PySem.W.mg_none_of X G z_int, bool_ := PySem.W.mg_none_of X G z_bool, tuple_ := PySem.W.mg_none_of X G z_tuple, isinstance := PySem.W.mg_none_of X G z_isinstance, divmod := PySem.W.mg_none_of X G z_divmod, max := PySem.W.mg_none_of X G z_max, min := PySem.W.mg_none_of X G z_min, range := PySem.W.mg_none_of X G z_range, all := PySem.W.mg_none_of X G z_all, repr := PySem.W.mg_none_of X G z_repr, str_ := PySem.W.mg_none_of X G z_str, enumerate := PySem.W.mg_none_of X G z_enumerate, any := PySem.W.mg_none_of X G z_any, list_ := PySem.W.mg_none_of X G z_list, mgG := PySem.W.mg_of X G aG, mgO := PySem.W.mg_of X G aOp, opn := ⟨_, _, _, laOp, rfl, rfl, (by show 2 ≤ sizeLine; decide), .cons ⟨_, rfl⟩ (.cons ⟨_, rfl⟩ .nil)⟩, mgOh := PySem.W.mg_of X G aOh, mgJo := PySem.W.mg_of X G aJo, mgCo := PySem.W.mg_of X G aMS, mgKi := PySem.W.mg_of X G aKi, mgW := PySem.W.mg_of X G aWo, wds := ⟨_, _, _, laWo, rfl, rfl, (by show 2 ≤ sizeLine; decide), .cons ⟨_, rfl⟩ (.cons ⟨_, rfl⟩ .nil)⟩, mgCh := PySem.W.mg_of X G aChk, chk := He.dicW_ok kr_chk, mgP := PySem.W.mg_of X G aGP, mgE := PySem.W.mg_of X G aCe, clE := ⟨pgCe, hdCe, poCe, saCe⟩, nP := nCe_parts }
  refine ⟨PySem.W.fnOf "law" "law" (defArgs s_law) (defBody s_law) (defScope s_law) .none kV_law dc_law pm_law an_law (.ref cA_law) ct_law, [(cA_law_refused_right, PA_law_refused_right), (cA_law, PA_law)], spLaw K [(PA_law_refused_right, ("_law_refused_right" : Str) ++ ".<locals>.<lambda>"), (PA_law, ("law" : Str) ++ ".<locals>.<lambda>")], List.forall_mem_cons.mpr ⟨tt_law_refused_right, List.forall_mem_cons.mpr ⟨tt_law, fun _ z => nomatch z⟩⟩, List.forall_mem_cons.mpr ⟨kn_law_refused_right, List.forall_mem_cons.mpr ⟨kn_law, fun _ z => nomatch z⟩⟩, List.forall_mem_cons.mpr ⟨PySem.W.codeHd_of_K X ch_law_refused_right, List.forall_mem_cons.mpr ⟨PySem.W.codeHd_of_K X ch_law, fun _ z => nomatch z⟩⟩, fun s v => .of_eq rfl, fun H a ns hl hT hS => ⟨a, ns, rfl, hS, hl, ?_, fun _ => rfl⟩, fun base _ _ hTB => ?_⟩
  · exact List.forall_mem_cons.mpr ⟨LamX.TabS.nil (hT (cA_law_refused_right, PA_law_refused_right) (by simp)), List.forall_mem_cons.mpr ⟨LamX.TabS.nil (hT (cA_law, PA_law) (by simp)), fun _ z => nomatch z⟩⟩
  have TB_law_refused_right := hTB (cA_law_refused_right, PA_law_refused_right) (by simp)
  have TM_law_refused_right : (PA_law_refused_right, ("_law_refused_right" : Str) ++ ".<locals>.<lambda>") ∈ ([(PA_law_refused_right, ("_law_refused_right" : Str) ++ ".<locals>.<lambda>"), (PA_law, ("law" : Str) ++ ".<locals>.<lambda>")] : List (Addr × Str)) := by simp
  have TU_law_refused_right : ∀ p ∈ ([(PA_law_refused_right, ("_law_refused_right" : Str) ++ ".<locals>.<lambda>"), (PA_law, ("law" : Str) ++ ".<locals>.<lambda>")] : List (Addr × Str)), p.1 = PA_law_refused_right → p.2 = ("_law_refused_right" : Str) ++ ".<locals>.<lambda>" := List.forall_mem_cons.mpr ⟨fun _ => rfl, List.forall_mem_cons.mpr ⟨fun z => absurd z ne_law_law_refused_right, fun _ z => nomatch z⟩⟩
  have FC_law_refused_right : FunC K "_law_refused_right" "_law_refused_right" s_law_refused_right f_law_refused_right _ cA_law_refused_right := ⟨_, _, _, _, _, _, _, _, rfl, l_law_refused_right, c_law_refused_right⟩
  have TB_law := hTB (cA_law, PA_law) (by simp)
  have TM_law : (PA_law, ("law" : Str) ++ ".<locals>.<lambda>") ∈ ([(PA_law_refused_right, ("_law_refused_right" : Str) ++ ".<locals>.<lambda>"), (PA_law, ("law" : Str) ++ ".<locals>.<lambda>")] : List (Addr × Str)) := by simp
  have TU_law : ∀ p ∈ ([(PA_law_refused_right, ("_law_refused_right" : Str) ++ ".<locals>.<lambda>"), (PA_law, ("law" : Str) ++ ".<locals>.<lambda>")] : List (Addr × Str)), p.1 = PA_law → p.2 = ("law" : Str) ++ ".<locals>.<lambda>" := List.forall_mem_cons.mpr ⟨fun z => absurd z ne_law_refused_right_law, List.forall_mem_cons.mpr ⟨fun _ => rfl, fun _ z => nomatch z⟩⟩
  have FC_law : FunC K "law" "law" s_law fa _ cA_law := ⟨_, _, _, _, _, _, _, _, rfl, l_law, c_law⟩
  have TX := T
  replace T := TX.toTxtA
  have F_is_integer := fun_mk (st := s_is_integer) l_is_integer c_is_integer k_is_integer
  have b_is_integer := F_is_integer.binds (ps := ["value"]) fun _ _ _ _ _ _ us hl => match us, hl with | [_], _ => rfl
  have D_is_integer : Df l.prog w K mg base 1 "is_integer" ["value"] spIsInt := ⟨_, _, ok_isint F_is_integer T.toTxt, PySem.W.mg_of X G a_is_integer, k_is_integer, b_is_integer⟩
  have D_is_integerG : Df l.prog w K mg base 1 "is_integer" ["value"] (spIntG K) := ⟨_, _, ok_isintG F_is_integer T.toTxt, PySem.W.mg_of X G a_is_integer, k_is_integer, b_is_integer⟩
  have F_is_integer_within := fun_mk (st := s_is_integer_within) l_is_integer_within c_is_integer_within k_is_integer_within
  have b_is_integer_within := F_is_integer_within.binds (ps := ["value", "least", "most"]) fun _ _ _ _ _ _ us hl => match us, hl with | [_, _, _], _ => rfl
  have D_is_integer_within : Df l.prog w K mg base 2 "is_integer_within" ["value", "least", "most"] (spWithinG K) := ⟨_, _, ok_withinG F_is_integer_within D_is_integerG, PySem.W.mg_of X G a_is_integer_within, k_is_integer_within, b_is_integer_within⟩
  have F_is_pair_of_integers := fun_mk (st := s_is_pair_of_integers) l_is_pair_of_integers c_is_pair_of_integers k_is_pair_of_integers
  have b_is_pair_of_integers := F_is_pair_of_integers.binds (ps := ["value"]) fun _ _ _ _ _ _ us hl => match us, hl with | [_], _ => rfl
  have D_is_pair_of_integers : Df l.prog w K mg base 2 "is_pair_of_integers" ["value"] (spPairG K) := ⟨_, _, ok_ispairG F_is_pair_of_integers T.toTxt D_is_integerG, PySem.W.mg_of X G a_is_pair_of_integers, k_is_pair_of_integers, b_is_pair_of_integers⟩
  have F_is_resistance := fun_mk (st := s_is_resistance) l_is_resistance c_is_resistance k_is_resistance
  have b_is_resistance := F_is_resistance.binds (ps := ["value"]) fun _ _ _ _ _ _ us hl => match us, hl with | [_], _ => rfl
  have D_is_resistance : Df l.prog w K mg base 3 "is_resistance" ["value"] (spResG K) := ⟨_, _, ok_isresG F_is_resistance T.toTxt2 D_is_integerG D_is_pair_of_integers, PySem.W.mg_of X G a_is_resistance, k_is_resistance, b_is_resistance⟩
  have F_pair_of := fun_mk (st := s_pair_of) l_pair_of c_pair_of k_pair_of
  have b_pair_of := F_pair_of.binds (ps := ["fraction_or_open"]) fun _ _ _ _ _ _ us hl => match us, hl with | [_], _ => rfl
  have D_pair_of : Df l.prog w K mg base 2 "pair_of" ["fraction_or_open"] spPairN := ⟨_, _, FnOk.weak (ok_pairof F_pair_of D_is_integer) pairN_weak, PySem.W.mg_of X G a_pair_of, k_pair_of, b_pair_of⟩
  have F_sign := fun_mk (st := s_sign) l_sign c_sign k_sign
  have b_sign := F_sign.binds (ps := ["number"]) fun _ _ _ _ _ _ us hl => match us, hl with | [_], _ => rfl
  have D_sign : Df l.prog w K mg base 1 "sign" ["number"] spSign := ⟨_, _, ok_sign F_sign, PySem.W.mg_of X G a_sign, k_sign, b_sign⟩
  have F_pair_order := fun_mk (st := s_pair_order) l_pair_order c_pair_order k_pair_order
  have b_pair_order := F_pair_order.binds (ps := ["first", "second"]) fun _ _ _ _ _ _ us hl => match us, hl with | [_, _], _ => rfl
  have D_pair_order : Df l.prog w K mg base 2 "pair_order" ["first", "second"] spPO := ⟨_, _, ok_po F_pair_order D_sign, PySem.W.mg_of X G a_pair_order, k_pair_order, b_pair_order⟩
  have F_is_number := fun_mk (st := s_is_number) l_is_number c_is_number k_is_number
  have b_is_number := F_is_number.binds (ps := ["value"]) fun _ _ _ _ _ _ us hl => match us, hl with | [_], _ => rfl
  have D_is_number : Df l.prog w K mg base 3 "is_number" ["value"] (spNumG K) := ⟨_, _, ok_numG F_is_number T D_is_integerG D_is_pair_of_integers, PySem.W.mg_of X G a_is_number, k_is_number, b_is_number⟩
  have F_is_piece := fun_mk (st := s_is_piece) l_is_piece c_is_piece k_is_piece
  have b_is_piece := F_is_piece.binds (ps := ["value"]) fun _ _ _ _ _ _ us hl => match us, hl with | [_], _ => rfl
  have D_is_piece : Df l.prog w K mg base 3 "is_piece" ["value"] (spPieceG K) := ⟨_, _, ok_pieceG F_is_piece T D_is_integer_within, PySem.W.mg_of X G a_is_piece, k_is_piece, b_is_piece⟩
  have F_is_row := fun_mk (st := s_is_row) l_is_row c_is_row k_is_row
  have b_is_row := F_is_row.binds (ps := ["value"]) fun _ _ _ _ _ _ us hl => match us, hl with | [_], _ => rfl
  have D_is_row : Df l.prog w K mg base 4 "is_row" ["value"] (spRowG K) := ⟨_, _, ok_rowG F_is_row T D_is_piece, PySem.W.mg_of X G a_is_row, k_is_row, b_is_row⟩
  have F_is_empty := fun_mk (st := s_is_empty) l_is_empty c_is_empty k_is_empty
  have b_is_empty := F_is_empty.binds (ps := ["value"]) fun _ _ _ _ _ _ us hl => match us, hl with | [_], _ => rfl
  have D_is_empty : Df l.prog w K mg base 1 "is_empty" ["value"] (spEmptyG K) := ⟨_, _, ok_emptyG F_is_empty T.toTxt, PySem.W.mg_of X G a_is_empty, k_is_empty, b_is_empty⟩
  have F_matrix_and_scale := fun_mk (st := s_matrix_and_scale) l_matrix_and_scale c_matrix_and_scale k_matrix_and_scale
  have b_matrix_and_scale := F_matrix_and_scale.binds (ps := ["row"]) fun _ _ _ _ _ _ us hl => match us, hl with | [_], _ => rfl
  have D_matrix_and_scale : Df l.prog w K mg base 1 "matrix_and_scale" ["row"] spMat := ⟨_, _, ok_mat F_matrix_and_scale, PySem.W.mg_of X G a_matrix_and_scale, k_matrix_and_scale, b_matrix_and_scale⟩
  have F_matrix_of := fun_mk (st := s_matrix_of) l_matrix_of c_matrix_of k_matrix_of
  have b_matrix_of := F_matrix_of.binds (ps := ["row"]) fun _ _ _ _ _ _ us hl => match us, hl with | [_], _ => rfl
  have D_matrix_of : Df l.prog w K mg base 2 "matrix_of" ["row"] spMatOf := ⟨_, _, ok_matof F_matrix_of D_matrix_and_scale, PySem.W.mg_of X G a_matrix_of, k_matrix_of, b_matrix_of⟩
  have F_shown_before := fun_mk (st := s_shown_before) l_shown_before c_shown_before k_shown_before
  have b_shown_before := F_shown_before.binds (ps := ["matrix", "pair"]) fun _ _ _ _ _ _ us hl => match us, hl with | [_, _], _ => rfl
  have D_shown_before : Df l.prog w K mg base 1 "shown_before" ["matrix", "pair"] spShown := ⟨_, _, ok_shown F_shown_before, PySem.W.mg_of X G a_shown_before, k_shown_before, b_shown_before⟩
  have F_common_divisor := fun_mk (st := s_common_divisor) l_common_divisor c_common_divisor k_common_divisor
  have b_common_divisor := F_common_divisor.binds (ps := ["first", "second"]) fun _ _ _ _ _ _ us hl => match us, hl with | [_, _], _ => rfl
  have D_common_divisor : Df l.prog w K mg base 1 "common_divisor" ["first", "second"] spGcd := ⟨_, _, ok_gcd F_common_divisor T.toTxt, PySem.W.mg_of X G a_common_divisor, k_common_divisor, b_common_divisor⟩
  have F_lowest_terms := fun_mk (st := s_lowest_terms) l_lowest_terms c_lowest_terms k_lowest_terms
  have b_lowest_terms := F_lowest_terms.binds (ps := ["top", "bottom"]) fun _ _ _ _ _ _ us hl => match us, hl with | [_, _], _ => rfl
  have D_lowest_terms : Df l.prog w K mg base 2 "lowest_terms" ["top", "bottom"] spLow := ⟨_, _, ok_low F_lowest_terms D_common_divisor, PySem.W.mg_of X G a_lowest_terms, k_lowest_terms, b_lowest_terms⟩
  have T3 : Txt3 K mg tG t1 t2 t3 aO aW J C := { toTxt2 := T.toTxt2, mgOh := T.mgOh, mgPi := PySem.W.mg_of X G aPi, mgJo := T.mgJo, mgW := T.mgW, wds := T.wds, mgJ := PySem.W.mg_of X G aJ, mgC := PySem.W.mg_of X G aC, clJ := ⟨pgJ, hdJ, poJ, saJ⟩, nJ := nJ_row, caJ := caJ, cnJ := cn, ctJ := ct, cmJ := cmJ, isJ := (by unfold PySem.W.kitOne; simp), ktJ := kt_J, cl := ⟨pgC, hdC, poC, saC⟩, nRow := nC_row, nMat := nC_matrix, nScl := nC_scale, nFour := nC_four }
  have I : IsC K C := ⟨caC, cn, ct, cmC, (by unfold PySem.W.kitOne; simp)⟩
  have D_is_integer_withinP : Df l.prog w K mg base 2 "is_integer_within" ["value", "least", "most"] spWithin := ⟨_, _, ok_within F_is_integer_within D_is_integer, PySem.W.mg_of X G a_is_integer_within, k_is_integer_within, b_is_integer_within⟩
  have D_is_pieceP : Df l.prog w K mg base 3 "is_piece" ["value"] spIsPiece := ⟨_, _, ok_ispiece F_is_piece T3 D_is_integer_withinP, PySem.W.mg_of X G a_is_piece, k_is_piece, b_is_piece⟩
  have F_checked_row := fun_mk (st := s_checked_row) l_checked_row c_checked_row k_checked_row
  have b_checked_row := F_checked_row.binds (ps := ["pieces"]) fun _ _ _ _ _ _ us hl => match us, hl with | [_], _ => rfl
  have D_checked_row : Df l.prog w K mg base 4 "checked_row" ["pieces"] (spChk J) := ⟨_, _, ok_chk F_checked_row T3 D_is_pieceP, PySem.W.mg_of X G a_checked_row, k_checked_row, b_checked_row⟩
  have D_pair_ofP : Df l.prog w K mg base 2 "pair_of" ["fraction_or_open"] spPairOf := ⟨_, _, ok_pairof F_pair_of D_is_integer, PySem.W.mg_of X G a_pair_of, k_pair_of, b_pair_of⟩
  have F_lowest_pair := fun_mk (st := s_lowest_pair) l_lowest_pair c_lowest_pair k_lowest_pair
  have b_lowest_pair := F_lowest_pair.binds (ps := ["fraction_or_open"]) fun _ _ _ _ _ _ us hl => match us, hl with | [_], _ => rfl
  have D_lowest_pair : Df l.prog w K mg base 3 "lowest_pair" ["fraction_or_open"] spLowP := ⟨_, _, ok_lowp F_lowest_pair D_pair_ofP D_lowest_terms, PySem.W.mg_of X G a_lowest_pair, k_lowest_pair, b_lowest_pair⟩
  have F_piece_text := fun_mk (st := s_piece_text) l_piece_text c_piece_text k_piece_text
  have b_piece_text := F_piece_text.binds (ps := ["word", "ohms"]) fun _ _ _ _ _ _ us hl => match us, hl with | [_, _], _ => rfl
  have D_piece_text : Df l.prog w K mg base 1 "piece_text" ["word", "ohms"] spPtx := ⟨_, _, ok_ptx F_piece_text, PySem.W.mg_of X G a_piece_text, k_piece_text, b_piece_text⟩
  have F_piece_with_text := fun_mk (st := s_piece_with_text) l_piece_with_text c_piece_with_text k_piece_with_text
  have b_piece_with_text := F_piece_with_text.binds (ps := ["text"]) fun _ _ _ _ _ _ us hl => match us, hl with | [_], _ => rfl
  have D_piece_with_text : Df l.prog w K mg base 2 "piece_with_text" ["text"] spPwt := ⟨_, _, ok_pwt F_piece_with_text T3 D_piece_text, PySem.W.mg_of X G a_piece_with_text, k_piece_with_text, b_piece_with_text⟩
  have F_JoinedRow_init := fun_mk (st := s_JoinedRow_init) l_JoinedRow_init c_JoinedRow_init k_JoinedRow_init
  have b_JoinedRow_init := F_JoinedRow_init.binds (ps := ["self", "row"]) fun _ _ _ _ _ _ us hl => match us, hl with | [_, _], _ => rfl
  have F_Pattern_init := fun_mk (st := s_Pattern_init) l_Pattern_init c_Pattern_init k_Pattern_init
  have F_Pattern_read := fun_mk (st := s_Pattern_read) l_Pattern_read c_Pattern_read k_Pattern_read
  have b_Pattern_read := F_Pattern_read.binds (ps := ["text"]) fun _ _ _ _ _ _ us hl => match us, hl with | [_], _ => rfl
  have F_Pattern_pieces := fun_mk (st := s_Pattern_pieces) l_Pattern_pieces c_Pattern_pieces k_Pattern_pieces
  have b_Pattern_pieces := F_Pattern_pieces.binds (ps := ["self"]) fun _ _ _ _ _ _ us hl => match us, hl with | [_], _ => rfl
  have X_join : JoinD l.prog w K mg base J f_JoinedRow_init _ := ⟨⟨mkJ, a_JoinedRow_init, i_JoinedRow_init, kcJ⟩, ok_join F_JoinedRow_init T3, b_JoinedRow_init⟩
  have X_pat : PatD l.prog w K mg base C J f_Pattern_init := ⟨⟨mkC, a_Pattern_init, i_Pattern_init, kcC⟩, ok_pinit F_Pattern_init T3 D_checked_row D_matrix_and_scale D_lowest_terms⟩
  have OR : OwR l.prog w K mg base C pr_Pattern_read f_Pattern_read _ := ⟨⟨rdC, gaC⟩, ⟨sa_Pattern_read, ⟨_, sc_Pattern_read⟩, k_Pattern_read⟩, ok_read F_Pattern_read T3 X_pat X_join D_piece_with_text, b_Pattern_read⟩
  have OPi : OwPi l.prog w K mg base C pr_Pattern_pieces f_Pattern_pieces _ := ⟨⟨pa_Pattern_pieces, pg_Pattern_pieces, pt_Pattern_pieces, _, pc_Pattern_pieces⟩, ok_pcs F_Pattern_pieces T3, b_Pattern_pieces⟩
  have kC : tyPat K C := fun d => by cases d <;> (simp only [tyN]; assumption)
  have D_signZ : Df l.prog w K mg base 1 "sign" ["number"] spSgZ := ⟨_, _, FnOk.weak (ok_sign F_sign) sgZ_weak, PySem.W.mg_of X G a_sign, k_sign, b_sign⟩
  have D_pair_orderZ : Df l.prog w K mg base 2 "pair_order" ["first", "second"] (spPOZ K) := ⟨_, _, ok_poZ F_pair_order D_signZ, PySem.W.mg_of X G a_pair_order, k_pair_order, b_pair_order⟩
  have F_difference := fun_mk (st := s_difference) l_difference c_difference k_difference
  have b_difference := F_difference.binds (ps := ["matrix", "other_matrix"]) fun _ _ _ _ _ _ us hl => match us, hl with | [_, _], _ => rfl
  have D_difference : Df l.prog w K mg base 1 "difference" ["matrix", "other_matrix"] spDiff := ⟨_, _, ok_diff F_difference, PySem.W.mg_of X G a_difference, k_difference, b_difference⟩
  have F_sign_at := fun_mk (st := s_sign_at) l_sign_at c_sign_at k_sign_at
  have b_sign_at := F_sign_at.binds (ps := ["parabola", "pair"]) fun _ _ _ _ _ _ us hl => match us, hl with | [_, _], _ => rfl
  have D_sign_at : Df l.prog w K mg base 2 "sign_at" ["parabola", "pair"] (spSAt K) := ⟨_, _, ok_sat F_sign_at D_signZ, PySem.W.mg_of X G a_sign_at, k_sign_at, b_sign_at⟩
  have F_sign_far_out := fun_mk (st := s_sign_far_out) l_sign_far_out c_sign_far_out k_sign_far_out
  have b_sign_far_out := F_sign_far_out.binds (ps := ["parabola"]) fun _ _ _ _ _ _ us hl => match us, hl with | [_], _ => rfl
  have D_sign_far_out : Df l.prog w K mg base 2 "sign_far_out" ["parabola"] spFar := ⟨_, _, ok_far F_sign_far_out D_signZ, PySem.W.mg_of X G a_sign_far_out, k_sign_far_out, b_sign_far_out⟩
  have F_sign_from := fun_mk (st := s_sign_from) l_sign_from c_sign_from k_sign_from
  have b_sign_from := F_sign_from.binds (ps := ["parabola", "pair"]) fun _ _ _ _ _ _ us hl => match us, hl with | [_, _], _ => rfl
  have D_sign_from : Df l.prog w K mg base 3 "sign_from" ["parabola", "pair"] (spFrom K) := ⟨_, _, ok_from F_sign_from D_sign_far_out D_sign_at, PySem.W.mg_of X G a_sign_from, k_sign_from, b_sign_from⟩
  have F_sign_towards := fun_mk (st := s_sign_towards) l_sign_towards c_sign_towards k_sign_towards
  have b_sign_towards := F_sign_towards.binds (ps := ["parabola", "limit"]) fun _ _ _ _ _ _ us hl => match us, hl with | [_, _], _ => rfl
  have D_sign_towards : Df l.prog w K mg base 3 "sign_towards" ["parabola", "limit"] (spTow aO) := ⟨_, _, ok_tow F_sign_towards T.toTxt2 D_sign_far_out, PySem.W.mg_of X G a_sign_towards, k_sign_towards, b_sign_towards⟩
  have F_limit_beside := fun_mk (st := s_limit_beside) l_limit_beside c_limit_beside k_limit_beside
  have b_limit_beside := F_limit_beside.binds (ps := ["limit", "pair"]) fun _ _ _ _ _ _ us hl => match us, hl with | [_, _], _ => rfl
  have D_limit_beside : Df l.prog w K mg base 3 "limit_beside" ["limit", "pair"] (spLB K aO) := ⟨_, _, ok_lb F_limit_beside T.toTxt2 D_pair_orderZ, PySem.W.mg_of X G a_limit_beside, k_limit_beside, b_limit_beside⟩
  have F_never_below := fun_mk (st := s_never_below) l_never_below c_never_below k_never_below
  have b_never_below := F_never_below.binds (ps := ["parabola", "pair", "limit"]) fun _ _ _ _ _ _ us hl => match us, hl with | [_, _, _], _ => rfl
  have D_never_below : Df l.prog w K mg base 4 "never_below" ["parabola", "pair", "limit"] (spNB aO) := ⟨_, _, ok_nb F_never_below D_sign_from D_sign_towards D_pair_orderZ D_limit_beside, PySem.W.mg_of X G a_never_below, k_never_below, b_never_below⟩
  have F_square_root := fun_mk (st := s_square_root) l_square_root c_square_root k_square_root
  have b_square_root := F_square_root.binds (ps := ["number"]) fun _ _ _ _ _ _ us hl => match us, hl with | [_], _ => rfl
  have D_square_root : Df l.prog w K mg base 1 "square_root" ["number"] spRoot := ⟨_, _, ok_sqrt F_square_root, PySem.W.mg_of X G a_square_root, k_square_root, b_square_root⟩
  have F_under_root := fun_mk (st := s_under_root) l_under_root c_under_root k_under_root
  have b_under_root := F_under_root.binds (ps := ["square", "line", "whole"]) fun _ _ _ _ _ _ us hl => match us, hl with | [_, _, _], _ => rfl
  have D_under_root : Df l.prog w K mg base 1 "under_root" ["square", "line", "whole"] spUnder := ⟨_, _, ok_under F_under_root, PySem.W.mg_of X G a_under_root, k_under_root, b_under_root⟩
  have F_equation_of_fraction := fun_mk (st := s_equation_of_fraction) l_equation_of_fraction c_equation_of_fraction k_equation_of_fraction
  have b_equation_of_fraction := F_equation_of_fraction.binds (ps := ["top", "bottom"]) fun _ _ _ _ _ _ us hl => match us, hl with | [_, _], _ => rfl
  have D_equation_of_fraction : Df l.prog w K mg base 3 "equation_of_fraction" ["top", "bottom"] spEqF := ⟨_, _, ok_eqf F_equation_of_fraction D_lowest_terms, PySem.W.mg_of X G a_equation_of_fraction, k_equation_of_fraction, b_equation_of_fraction⟩
  have F_simplest_equation := fun_mk (st := s_simplest_equation) l_simplest_equation c_simplest_equation k_simplest_equation
  have b_simplest_equation := F_simplest_equation.binds (ps := ["square", "line", "whole"]) fun _ _ _ _ _ _ us hl => match us, hl with | [_, _, _], _ => rfl
  have D_simplest_equation : Df l.prog w K mg base 4 "simplest_equation" ["square", "line", "whole"] spSimp := ⟨_, _, ok_simp F_simplest_equation D_common_divisor D_square_root D_under_root D_equation_of_fraction, PySem.W.mg_of X G a_simplest_equation, k_simplest_equation, b_simplest_equation⟩
  have F_Exact_init := fun_mk (st := s_Exact_init) l_Exact_init c_Exact_init k_Exact_init
  have b_Exact_init := F_Exact_init.binds (ps := ["self", "square", "line", "whole"]) fun _ _ _ _ _ _ us hl => match us, hl with | [_, _, _, _], _ => rfl
  have X_exact : ExD l.prog w K mg base Ce := ⟨_, _, ⟨mkCe, a_Exact_init, i_Exact_init, kcCe⟩, ok_init F_Exact_init TX D_is_integer_withinP D_simplest_equation, b_Exact_init⟩
  have F_Exact_eq := fun_mk (st := s_Exact_eq) l_Exact_eq c_Exact_eq k_Exact_eq
  have b_Exact_eq := F_Exact_eq.binds (ps := ["self", "other"]) fun _ _ _ _ _ _ us hl => match us, hl with | [_, _], _ => rfl
  have OX : OwX l.prog w K mg base Ce aO f_Exact_eq _ := ⟨a_Exact_eq, i_Exact_eq, ok_eqo F_Exact_eq TX kt_E, b_Exact_eq, nf_E⟩
  have F_Exact_equation := fun_mk (st := s_Exact_equation) l_Exact_equation c_Exact_equation k_Exact_equation
  have b_Exact_equation := F_Exact_equation.binds (ps := ["self"]) fun _ _ _ _ _ _ us hl => match us, hl with | [_], _ => rfl
  have OQ : OwQ l.prog w K mg base Ce pr_Exact_equation f_Exact_equation _ := ⟨⟨pa_Exact_equation, pg_Exact_equation, pt_Exact_equation, _, pc_Exact_equation⟩, ok_eqn F_Exact_equation TX, b_Exact_equation⟩
  have F_ladder_limit := fun_mk (st := s_ladder_limit) l_ladder_limit c_ladder_limit k_ladder_limit
  have b_ladder_limit := F_ladder_limit.binds (ps := ["matrix"]) fun _ _ _ _ _ _ us hl => match us, hl with | [_], _ => rfl
  have D_ladder_limit : Df l.prog w K mg base 7 "ladder_limit" ["matrix"] (spLim aO Ce) := ⟨_, _, ok_lim F_ladder_limit TX X_exact, PySem.W.mg_of X G a_ladder_limit, k_ladder_limit, b_ladder_limit⟩
  have F_check_pattern := fun_mk (st := s_check_pattern) l_check_pattern c_check_pattern k_check_pattern
  have b_check_pattern := F_check_pattern.binds (ps := ["value"]) fun _ _ _ _ _ _ us hl => match us, hl with | [_], _ => rfl
  have D_check_pattern : Df l.prog w K mg base 1 "check_pattern" ["value"] (spChkP C) := ⟨_, _, ok_chkp F_check_pattern T3 I, PySem.W.mg_of X G a_check_pattern, k_check_pattern, b_check_pattern⟩
  have F_check_resistance := fun_mk (st := s_check_resistance) l_check_resistance c_check_resistance k_check_resistance
  have b_check_resistance := F_check_resistance.binds (ps := ["value"]) fun _ _ _ _ _ _ us hl => match us, hl with | [_], _ => rfl
  have D_check_resistance : Df l.prog w K mg base 4 "check_resistance" ["value"] (spChkRD K) := ⟨_, _, ok_chkrD F_check_resistance D_is_resistance, PySem.W.mg_of X G a_check_resistance, k_check_resistance, b_check_resistance⟩
  have F_times := fun_mk (st := s_times) l_times c_times k_times
  have b_times := F_times.binds (ps := ["parabola", "factor"]) fun _ _ _ _ _ _ us hl => match us, hl with | [_, _], _ => rfl
  have D_times : Df l.prog w K mg base 1 "times" ["parabola", "factor"] spTimes := ⟨_, _, ok_times F_times, PySem.W.mg_of X G a_times, k_times, b_times⟩
  have F_more_load := fun_mk (st := s_more_load) l_more_load c_more_load k_more_load
  have b_more_load := F_more_load.binds (ps := ["pattern", "other"]) fun _ _ _ _ _ _ us hl => match us, hl with | [_, _], _ => rfl
  have D_more_load : Df l.prog w K mg base 5 "more_load" ["pattern", "other"] (spML aO C) := ⟨_, _, ok_ml F_more_load T3 D_check_pattern D_difference D_never_below D_times D_sign_at D_lowest_terms, PySem.W.mg_of X G a_more_load, k_more_load, b_more_load⟩
  have F_certify_never := fun_mk (st := s_certify_never) l_certify_never c_certify_never k_certify_never
  have b_certify_never := F_certify_never.binds (ps := ["pattern", "other"]) fun _ _ _ _ _ _ us hl => match us, hl with | [_, _], _ => rfl
  have D_certify_never : Df l.prog w K mg base 6 "certify_never" ["pattern", "other"] (spCN aO C) := ⟨_, _, ok_cn F_certify_never T3 OPi D_more_load, PySem.W.mg_of X G a_certify_never, k_certify_never, b_certify_never⟩
  have F_certify_limit := fun_mk (st := s_certify_limit) l_certify_limit c_certify_limit k_certify_limit
  have b_certify_limit := F_certify_limit.binds (ps := ["pattern", "load"]) fun _ _ _ _ _ _ us hl => match us, hl with | [_, _], _ => rfl
  have D_certify_limit : Df l.prog w K mg base 8 "certify_limit" ["pattern", "load"] (spCL K aO C) := ⟨_, _, ok_cl F_certify_limit TX T3 OPi OX OQ D_check_pattern D_check_resistance D_ladder_limit D_lowest_pair, PySem.W.mg_of X G a_certify_limit, k_certify_limit, b_certify_limit⟩
  have D_pair_ofT : Df l.prog w K mg base 2 "pair_of" ["fraction_or_open"] (spPrT K) := ⟨_, _, ok_pairofT F_pair_of D_is_integerG, PySem.W.mg_of X G a_pair_of, k_pair_of, b_pair_of⟩
  have D_shown_beforeT : Df l.prog w K mg base 1 "shown_before" ["matrix", "pair"] (spShownT K) := ⟨_, _, ok_shownT F_shown_before, PySem.W.mg_of X G a_shown_before, k_shown_before, b_shown_before⟩
  have F_check_never := fun_mk (st := s_check_never) l_check_never c_check_never k_check_never
  have b_check_never := F_check_never.binds (ps := ["places", "certificate"]) fun _ _ _ _ _ _ us hl => match us, hl with | [_, _], _ => rfl
  have F_check_more := fun_mk (st := s_check_more) l_check_more c_check_more k_check_more
  have b_check_more := F_check_more.binds (ps := ["places", "certificate"]) fun _ _ _ _ _ _ us hl => match us, hl with | [_, _], _ => rfl
  have F_check_limit := fun_mk (st := s_check_limit) l_check_limit c_check_limit k_check_limit
  have b_check_limit := F_check_limit.binds (ps := ["places", "certificate"]) fun _ _ _ _ _ _ us hl => match us, hl with | [_, _], _ => rfl
  have F_accepts := fun_mk (st := s_accepts) l_accepts c_accepts k_accepts
  have b_accepts := F_accepts.binds (ps := ["claim", "certificate"]) fun _ _ _ _ _ _ us hl => match us, hl with | [_, _], _ => rfl
  have ks : Keys3 K aCh f_check_never f_check_more f_check_limit := ⟨kr_kn, kr_ko, kr_kl, of_decide_eq_true kr_nd⟩
  have HC0 : ∀ p ∈ chL3 K aO f_check_never f_check_more f_check_limit, Held l.prog w K mg base 8 p.1 p.2 := (List.forall_mem_cons.mpr ⟨(⟨_, _, FnOk.mono (ok_ckneT F_check_never T D_is_empty D_is_row D_matrix_of D_difference D_never_below) (by decide), k_check_never, b_check_never⟩ : Held l.prog w K mg base 8 f_check_never _), List.forall_mem_cons.mpr ⟨(⟨_, _, FnOk.mono (ok_ckmoT F_check_more T D_is_empty D_is_row D_is_number D_pair_ofT D_matrix_of D_shown_beforeT D_pair_order) (by decide), k_check_more, b_check_more⟩ : Held l.prog w K mg base 8 f_check_more _), List.forall_mem_cons.mpr ⟨(⟨_, _, FnOk.mono (ok_ckliT F_check_limit TX OX OQ D_is_integerG D_is_empty D_is_row D_is_resistance D_matrix_of D_ladder_limit) (by decide), k_check_limit, b_check_limit⟩ : Held l.prog w K mg base 8 f_check_limit _), List.forall_mem_nil _⟩⟩⟩)
  have HC : ∀ f sp, chS (chL3 K aO f_check_never f_check_more f_check_limit) f = some sp → Held l.prog w K mg base 8 f sp := fun f sp h => HC0 (f, sp) (lk_of h)
  have okA := FnOk.weak (ok_accT (P := l.prog) (w := w) (base := base) F_accepts T HC) (acc_weak3 ks)
  have D_accepts : Df l.prog w K mg base 9 "accepts" ["claim", "certificate"] (spAcc3 K aO) := ⟨_, _, okA, PySem.W.mg_of X G a_accepts, k_accepts, b_accepts⟩
  have TE : TxF mg (cF [X0, X1, X2, X3, X4, X5, X6, X7, X8, X9, X10, X11, X12, X13, X14, X15, X16, X17]) := { m0 := PySem.W.mg_of X G aX0, m1 := PySem.W.mg_of X G aX1, m2 := PySem.W.mg_of X G aX2, m3 := PySem.W.mg_of X G aX3, m4 := PySem.W.mg_of X G aX4, m5 := PySem.W.mg_of X G aX5, m6 := PySem.W.mg_of X G aX6, m7 := PySem.W.mg_of X G aX7, m8 := PySem.W.mg_of X G aX8, m9 := PySem.W.mg_of X G aX9, m10 := PySem.W.mg_of X G aX10, m11 := PySem.W.mg_of X G aX11, m12 := PySem.W.mg_of X G aX12, m13 := PySem.W.mg_of X G aX13, m14 := PySem.W.mg_of X G aX14, m15 := PySem.W.mg_of X G aX15, m16 := PySem.W.mg_of X G aX16, m17 := PySem.W.mg_of X G aX17 }
  have Z : XK0 K := ⟨cn, ct⟩
  have F_WrongValue_init := fun_mk (st := s_WrongValue_init) l_WrongValue_init c_WrongValue_init k_WrongValue_init
  have b_WrongValue_init := F_WrongValue_init.binds (ps := ["self"]) fun _ _ _ _ _ _ us hl => match us, hl with | [_], _ => rfl
  have B15 : Bi l.prog w K mg base "WrongValue" := ⟨X15, f_WrongValue_init, .type "type", _, PySem.W.mg_of X G aX15, ⟨rd_15, ga_15⟩, fc_15, k_WrongValue_init, ok_WrongValue_init F_WrongValue_init, b_WrongValue_init⟩
  have F_NotAPattern_init := fun_mk (st := s_NotAPattern_init) l_NotAPattern_init c_NotAPattern_init k_NotAPattern_init
  have b_NotAPattern_init := F_NotAPattern_init.binds (ps := ["self", "given"]) fun _ _ _ _ _ _ us hl => match us, hl with | [_, _], _ => rfl
  have x0 : XC K X0 := xcB_ok PySem.F.excBase_ValueError PySem.F.store_ValueError xb_0
  have M0 : XM l.prog w K mg base 2 X0 ["self", "given"] (spI K "given") := ⟨x0, f_NotAPattern_init, _, a_NotAPattern_init, i_NotAPattern_init, ok_NotAPattern_init F_NotAPattern_init B15, b_NotAPattern_init, fun y z e => by
    cases e
    exact ⟨fun s us ws _ h1 h2 => match us, h1, ws, h2 with | [_], _, [_], _ => BindsTo.of_eq (fd := PySem.W.fnOf "__init__" "NotAPattern.__init__" (defArgs s_NotAPattern_init) (defBody s_NotAPattern_init) (defScope s_NotAPattern_init) .none kV_NotAPattern_init dc_NotAPattern_init pm_NotAPattern_init an_NotAPattern_init cd_NotAPattern_init ct_NotAPattern_init) rfl, fun r1 r2 => r1.append r2⟩⟩
  have RZ0 : Rz l.prog w K mg base (cF [X0, X1, X2, X3, X4, X5, X6, X7, X8, X9, X10, X11, X12, X13, X14, X15, X16, X17]) 0 "given" := ⟨M0, ty_0, no_0⟩
  have EF0 : EF K (cF [X0, X1, X2, X3, X4, X5, X6, X7, X8, X9, X10, X11, X12, X13, X14, X15, X16, X17]) (cF [X0, X1, X2, X3, X4, X5, X6, X7, X8, X9, X10, X11, X12, X13, X14, X15, X16, X17] 0) 0 := ef_0 x0 ro_0 any_0 no_0
  have F_InvalidResistance_init := fun_mk (st := s_InvalidResistance_init) l_InvalidResistance_init c_InvalidResistance_init k_InvalidResistance_init
  have b_InvalidResistance_init := F_InvalidResistance_init.binds (ps := ["self", "given"]) fun _ _ _ _ _ _ us hl => match us, hl with | [_, _], _ => rfl
  have x2 : XC K X2 := xcB_ok PySem.F.excBase_ValueError PySem.F.store_ValueError xb_2
  have M2 : XM l.prog w K mg base 2 X2 ["self", "given"] (spI K "given") := ⟨x2, f_InvalidResistance_init, _, a_InvalidResistance_init, i_InvalidResistance_init, ok_InvalidResistance_init F_InvalidResistance_init B15, b_InvalidResistance_init, fun y z e => by
    cases e
    exact ⟨fun s us ws _ h1 h2 => match us, h1, ws, h2 with | [_], _, [_], _ => BindsTo.of_eq (fd := PySem.W.fnOf "__init__" "InvalidResistance.__init__" (defArgs s_InvalidResistance_init) (defBody s_InvalidResistance_init) (defScope s_InvalidResistance_init) .none kV_InvalidResistance_init dc_InvalidResistance_init pm_InvalidResistance_init an_InvalidResistance_init cd_InvalidResistance_init ct_InvalidResistance_init) rfl, fun r1 r2 => r1.append r2⟩⟩
  have RZ2 : Rz l.prog w K mg base (cF [X0, X1, X2, X3, X4, X5, X6, X7, X8, X9, X10, X11, X12, X13, X14, X15, X16, X17]) 2 "given" := ⟨M2, ty_2, no_2⟩
  have EF2 : EF K (cF [X0, X1, X2, X3, X4, X5, X6, X7, X8, X9, X10, X11, X12, X13, X14, X15, X16, X17]) (cF [X0, X1, X2, X3, X4, X5, X6, X7, X8, X9, X10, X11, X12, X13, X14, X15, X16, X17] 2) 2 := ef_2 x2 ro_2 any_2 no_2
  have F_law_error := fun_mk (st := s_law_error) l_law_error c_law_error k_law_error
  have b_law_error := F_law_error.binds (ps := ["_law_e"]) fun _ _ _ _ _ _ us hl => match us, hl with | [_], _ => rfl
  have D_law_error : DfF l.prog w K mg base 2 "_law_error" ["_law_e"] (spErr K (cF [X0, X1, X2, X3, X4, X5, X6, X7, X8, X9, X10, X11, X12, X13, X14, X15, X16, X17])) := ⟨_, _, ok_errF F_law_error T.toTxt TE Z, PySem.W.mg_of X G a_law_error, k_law_error, b_law_error⟩
  have F_law_told := fun_mk (st := s_law_told) l_law_told c_law_told k_law_told
  have b_law_told := F_law_told.binds (ps := ["_law_act"]) fun _ _ _ _ _ _ us hl => match us, hl with | [_], _ => rfl
  have CG : ToldD l.prog w K mg base (cF [X0, X1, X2, X3, X4, X5, X6, X7, X8, X9, X10, X11, X12, X13, X14, X15, X16, X17]) 1 (rRp K) := ⟨T.toTxt, TE, ⟨_, _, F_law_told, PySem.W.mg_of X G a_law_told⟩, D_law_error, fun Y _ _ e _ _ hg hr => by
    subst e
    exact cr_rpK hg hr.units⟩
  have D_check_patternN : DfN l.prog w K mg base 4 "check_pattern" ["value"] (spChkPN K C X0) := ⟨_, _, ok_chkpN (c := cF [X0, X1, X2, X3, X4, X5, X6, X7, X8, X9, X10, X11, X12, X13, X14, X15, X16, X17]) F_check_pattern T3 TE RZ0 I kC, PySem.W.mg_of X G a_check_pattern, k_check_pattern, b_check_pattern⟩
  have D_check_resistanceN : DfN l.prog w K mg base 5 "check_resistance" ["value"] (spChkRN K X2) := ⟨_, _, ok_chkrN (c := cF [X0, X1, X2, X3, X4, X5, X6, X7, X8, X9, X10, X11, X12, X13, X14, X15, X16, X17]) F_check_resistance TE RZ2 D_is_resistance, PySem.W.mg_of X G a_check_resistance, k_check_resistance, b_check_resistance⟩
  have D_more_loadN : DfN l.prog w K mg base 6 "more_load" ["pattern", "other"] (spMLN K C X0) := ⟨_, _, ok_mlN (c := cF [X0, X1, X2, X3, X4, X5, X6, X7, X8, X9, X10, X11, X12, X13, X14, X15, X16, X17]) F_more_load D_check_patternN, PySem.W.mg_of X G a_more_load, k_more_load, b_more_load⟩
  have D_certify_neverN : DfN l.prog w K mg base 7 "certify_never" ["pattern", "other"] (spMLN K C X0) := ⟨_, _, ok_cnN (c := cF [X0, X1, X2, X3, X4, X5, X6, X7, X8, X9, X10, X11, X12, X13, X14, X15, X16, X17]) F_certify_never D_more_loadN, PySem.W.mg_of X G a_certify_never, k_certify_never, b_certify_never⟩
  have D_certify_neverNK : DfNK l.prog w K mg base 7 "certify_never" "other" "pattern" (spMLN K C X0) := ⟨_, _, ok_cnN (c := cF [X0, X1, X2, X3, X4, X5, X6, X7, X8, X9, X10, X11, X12, X13, X14, X15, X16, X17]) F_certify_never D_more_loadN, PySem.W.mg_of X G a_certify_never, k_certify_never, kb_sw fun _ _ _ => .of_eq rfl⟩
  have D_certify_limitN : DfN l.prog w K mg base 8 "certify_limit" ["pattern", "load"] (spCLN K aO C X0 X2) := ⟨_, _, ok_clN (c := cF [X0, X1, X2, X3, X4, X5, X6, X7, X8, X9, X10, X11, X12, X13, X14, X15, X16, X17]) F_certify_limit TX T3 OPi OX OQ D_check_patternN D_check_resistanceN D_ladder_limit D_lowest_pair, PySem.W.mg_of X G a_certify_limit, k_certify_limit, b_certify_limit⟩
  have D_certify_limitNK : DfNK l.prog w K mg base 8 "certify_limit" "load" "pattern" (spCLN K aO C X0 X2) := ⟨_, _, ok_clN (c := cF [X0, X1, X2, X3, X4, X5, X6, X7, X8, X9, X10, X11, X12, X13, X14, X15, X16, X17]) F_certify_limit TX T3 OPi OX OQ D_check_patternN D_check_resistanceN D_ladder_limit D_lowest_pair, PySem.W.mg_of X G a_certify_limit, k_certify_limit, kb_sw fun _ _ _ => .of_eq rfl⟩
  have F_law_cell := fun_mk (st := s_law_cell) l_law_cell c_law_cell k_law_cell
  have b_law_cell := F_law_cell.binds (ps := ["_law_script", "_law_place"]) fun _ _ _ _ _ _ us hl => match us, hl with | [_, _], _ => rfl
  have D_law_cell : Df l.prog w K mg base 1 "_law_cell" ["_law_script", "_law_place"] (spCell K) := ⟨_, _, ok_cell F_law_cell T.toTxt, PySem.W.mg_of X G a_law_cell, k_law_cell, b_law_cell⟩
  have F_law_src := fun_mk (st := s_law_src) l_law_src c_law_src k_law_src
  have b_law_src := F_law_src.binds (ps := ["_law_number"]) fun _ _ _ _ _ _ us hl => match us, hl with | [_], _ => rfl
  have D_law_src : Df l.prog w K mg base 1 "_law_src" ["_law_number"] spSrc := ⟨_, _, ok_src F_law_src T.toTxt, PySem.W.mg_of X G a_law_src, k_law_src, b_law_src⟩
  have F_law_pick := fun_mk (st := s_law_pick) l_law_pick c_law_pick k_law_pick
  have b_law_pick := F_law_pick.binds (ps := ["_law_tape", "_law_many"]) fun _ _ _ _ _ _ us hl => match us, hl with | [_, _], _ => rfl
  have D_law_pick : Df l.prog w K mg base 1 "_law_pick" ["_law_tape", "_law_many"] spDraw := ⟨_, _, ok_draw F_law_pick T.toTxt, PySem.W.mg_of X G a_law_pick, k_law_pick, b_law_pick⟩
  have F_law_lowest := fun_mk (st := s_law_lowest) l_law_lowest c_law_lowest k_law_lowest
  have b_law_lowest := F_law_lowest.binds (ps := ["_law_top", "_law_bottom"]) fun _ _ _ _ _ _ us hl => match us, hl with | [_, _], _ => rfl
  have D_law_lowest : Df l.prog w K mg base 1 "_law_lowest" ["_law_top", "_law_bottom"] spPair := ⟨_, _, ok_lowest F_law_lowest T.toTxt, PySem.W.mg_of X G a_law_lowest, k_law_lowest, b_law_lowest⟩
  have F_law_frac := fun_mk (st := s_law_frac) l_law_frac c_law_frac k_law_frac
  have b_law_frac := F_law_frac.binds (ps := ["_law_thing"]) fun _ _ _ _ _ _ us hl => match us, hl with | [_], _ => rfl
  have D_law_frac : Df l.prog w K mg base 2 "_law_frac" ["_law_thing"] spFrac := ⟨_, _, ok_frac F_law_frac T.toTxt D_law_lowest, PySem.W.mg_of X G a_law_frac, k_law_frac, b_law_frac⟩
  have F_law_led := fun_mk (st := s_law_led) l_law_led c_law_led k_law_led
  have b_law_led := F_law_led.binds (ps := ["_law_row", "_law_pair"]) fun _ _ _ _ _ _ us hl => match us, hl with | [_, _], _ => rfl
  have D_law_led : Df l.prog w K mg base 1 "_law_led" ["_law_row", "_law_pair"] spLed := ⟨_, _, ok_led F_law_led, PySem.W.mg_of X G a_law_led, k_law_led, b_law_led⟩
  have F_law_is_load := fun_mk (st := s_law_is_load) l_law_is_load c_law_is_load k_law_is_load
  have b_law_is_load := F_law_is_load.binds (ps := ["_law_thing"]) fun _ _ _ _ _ _ us hl => match us, hl with | [_], _ => rfl
  have D_law_is_load : Df l.prog w K mg base 1 "_law_is_load" ["_law_thing"] spIsLoad := ⟨_, _, ok_isload F_law_is_load T, PySem.W.mg_of X G a_law_is_load, k_law_is_load, b_law_is_load⟩
  have F_law_is_number := fun_mk (st := s_law_is_number) l_law_is_number c_law_is_number k_law_is_number
  have b_law_is_number := F_law_is_number.binds (ps := ["_law_thing"]) fun _ _ _ _ _ _ us hl => match us, hl with | [_], _ => rfl
  have D_law_is_number : Df l.prog w K mg base 1 "_law_is_number" ["_law_thing"] spIsNum := ⟨_, _, ok_isnum F_law_is_number T, PySem.W.mg_of X G a_law_is_number, k_law_is_number, b_law_is_number⟩
  have F_law_anyrow := fun_mk (st := s_law_anyrow) l_law_anyrow c_law_anyrow k_law_anyrow
  have b_law_anyrow := F_law_anyrow.binds (ps := ["_law_tape", "_law_longest"]) fun _ _ _ _ _ _ us hl => match us, hl with | [_, _], _ => rfl
  have D_law_anyrow : Df l.prog w K mg base 2 "_law_anyrow" ["_law_tape", "_law_longest"] spAnyRow := ⟨_, _, ok_anyrow F_law_anyrow T.toTxt D_law_pick, PySem.W.mg_of X G a_law_anyrow, k_law_anyrow, b_law_anyrow⟩
  have F_law_anyload := fun_mk (st := s_law_anyload) l_law_anyload c_law_anyload k_law_anyload
  have b_law_anyload := F_law_anyload.binds (ps := ["_law_tape"]) fun _ _ _ _ _ _ us hl => match us, hl with | [_], _ => rfl
  have D_law_anyload : Df l.prog w K mg base 2 "_law_anyload" ["_law_tape"] spAnyLoad := ⟨_, _, ok_anyload F_law_anyload D_law_pick, PySem.W.mg_of X G a_law_anyload, k_law_anyload, b_law_anyload⟩
  have D_law_anyrowL : Df l.prog w K mg base 2 "_law_anyrow" ["_law_tape", "_law_longest"] spAnyRowL := ⟨_, _, ok_anyrowL F_law_anyrow T.toTxt D_law_pick, PySem.W.mg_of X G a_law_anyrow, k_law_anyrow, b_law_anyrow⟩
  have D_law_fracT : Df l.prog w K mg base 2 "_law_frac" ["_law_thing"] (spFracT K) := ⟨_, _, ok_fracT F_law_frac T.toTxt D_law_lowest, PySem.W.mg_of X G a_law_frac, k_law_frac, b_law_frac⟩
  have D_law_ledT : Df l.prog w K mg base 1 "_law_led" ["_law_row", "_law_pair"] (spLedT K) := ⟨_, _, ok_ledT F_law_led, PySem.W.mg_of X G a_law_led, k_law_led, b_law_led⟩
  have D_law_is_numberT : Df l.prog w K mg base 1 "_law_is_number" ["_law_thing"] (spIsNumT K) := ⟨_, _, ok_isnumT F_law_is_number T, PySem.W.mg_of X G a_law_is_number, k_law_is_number, b_law_is_number⟩
  have F_law_sign := fun_mk (st := s_law_sign) l_law_sign c_law_sign k_law_sign
  have b_law_sign := F_law_sign.binds (ps := ["_law_one", "_law_two"]) fun _ _ _ _ _ _ us hl => match us, hl with | [_, _], _ => rfl
  have D_law_sign : Df l.prog w K mg base 1 "_law_sign" ["_law_one", "_law_two"] spSgn := ⟨_, _, ok_sgn F_law_sign, PySem.W.mg_of X G a_law_sign, k_law_sign, b_law_sign⟩
  have F_law_never := fun_mk (st := s_law_never) l_law_never c_law_never k_law_never
  have b_law_never := F_law_never.binds (ps := ["_law_row", "_law_mate"]) fun _ _ _ _ _ _ us hl => match us, hl with | [_, _], _ => rfl
  have D_law_never : Df l.prog w K mg base 2 "_law_never" ["_law_row", "_law_mate"] spLNev := ⟨_, _, ok_lnev F_law_never D_law_led, PySem.W.mg_of X G a_law_never, k_law_never, b_law_never⟩
  have F_law_isqrt := fun_mk (st := s_law_isqrt) l_law_isqrt c_law_isqrt k_law_isqrt
  have b_law_isqrt := F_law_isqrt.binds (ps := ["_law_number"]) fun _ _ _ _ _ _ us hl => match us, hl with | [_], _ => rfl
  have D_law_isqrt : Df l.prog w K mg base 1 "_law_isqrt" ["_law_number"] spIsq := ⟨_, _, ok_isq F_law_isqrt, PySem.W.mg_of X G a_law_isqrt, k_law_isqrt, b_law_isqrt⟩
  have F_law_limit := fun_mk (st := s_law_limit) l_law_limit c_law_limit k_law_limit
  have b_law_limit := F_law_limit.binds (ps := ["_law_row"]) fun _ _ _ _ _ _ us hl => match us, hl with | [_], _ => rfl
  have D_law_limit : Df l.prog w K mg base 2 "_law_limit" ["_law_row"] spLLim := ⟨_, _, ok_llim F_law_limit T D_law_led D_law_isqrt D_law_lowest, PySem.W.mg_of X G a_law_limit, k_law_limit, b_law_limit⟩
  have F_law_even := fun_mk (st := s_law_even) l_law_even c_law_even k_law_even
  have b_law_even := F_law_even.binds (ps := ["_law_tape"]) fun _ _ _ _ _ _ us hl => match us, hl with | [_], _ => rfl
  have D_law_even : Df l.prog w K mg base 2 "_law_even" ["_law_tape"] spEven := ⟨_, _, ok_even F_law_even D_law_pick, PySem.W.mg_of X G a_law_even, k_law_even, b_law_even⟩
  have F_law_some_row := fun_mk (st := s_law_some_row) l_law_some_row c_law_some_row k_law_some_row
  have b_law_some_row := F_law_some_row.binds (ps := ["_law_tape", "_law_longest"]) fun _ _ _ _ _ _ us hl => match us, hl with | [_, _], _ => rfl
  have D_law_some_row : Df l.prog w K mg base 3 "_law_some_row" ["_law_tape", "_law_longest"] spSomeRow := ⟨_, _, ok_somerow F_law_some_row D_law_pick D_law_even D_law_anyrowL, PySem.W.mg_of X G a_law_some_row, k_law_some_row, b_law_some_row⟩
  have F_law_near := fun_mk (st := s_law_near) l_law_near c_law_near k_law_near
  have b_law_near := F_law_near.binds (ps := ["_law_tape", "_law_row"]) fun _ _ _ _ _ _ us hl => match us, hl with | [_, _], _ => rfl
  have D_law_near : Df l.prog w K mg base 3 "_law_near" ["_law_tape", "_law_row"] spNear := ⟨_, _, ok_near F_law_near T D_law_pick D_law_anyrowL, PySem.W.mg_of X G a_law_near, k_law_near, b_law_near⟩
  have F_law_crossing := fun_mk (st := s_law_crossing) l_law_crossing c_law_crossing k_law_crossing
  have b_law_crossing := F_law_crossing.binds (ps := ["_law_tape"]) fun _ _ _ _ _ _ us hl => match us, hl with | [_], _ => rfl
  have D_law_crossing : Df l.prog w K mg base 2 "_law_crossing" ["_law_tape"] spCross := ⟨_, _, ok_cross F_law_crossing D_law_pick, PySem.W.mg_of X G a_law_crossing, k_law_crossing, b_law_crossing⟩
  have F_law_text := fun_mk (st := s_law_text) l_law_text c_law_text k_law_text
  have b_law_text := F_law_text.binds (ps := ["_law_row"]) fun _ _ _ _ _ _ us hl => match us, hl with | [_], _ => rfl
  have D_law_text : Df l.prog w K mg base 1 "_law_text" ["_law_row"] spTx := ⟨_, _, ok_text F_law_text T.toTxt, PySem.W.mg_of X G a_law_text, k_law_text, b_law_text⟩
  have F_law_pat := fun_mk (st := s_law_pat) l_law_pat c_law_pat k_law_pat
  have b_law_pat := F_law_pat.binds (ps := ["_law_row"]) fun _ _ _ _ _ _ us hl => match us, hl with | [_], _ => rfl
  have D_law_pat : Df l.prog w K mg base 8 "_law_pat" ["_law_row"] (spPat C) := ⟨_, _, ok_pat F_law_pat T3 OR D_law_text, PySem.W.mg_of X G a_law_pat, k_law_pat, b_law_pat⟩
  have F_law_never_right := fun_mk (st := s_law_never_right) l_law_never_right c_law_never_right k_law_never_right
  have b_law_never_right := F_law_never_right.binds (ps := ["_law_row", "_law_mate"]) fun _ _ _ _ _ _ us hl => match us, hl with | [_, _], _ => rfl
  have D_law_never_right : DfG l.prog w K mg base 10 "_law_never_right" ["_law_row", "_law_mate"] spNevR := ⟨_, _, ok_nevr F_law_never_right TX D_certify_never D_more_load D_law_pat D_law_never D_accepts D_law_is_numberT D_law_fracT D_law_ledT D_law_sign, PySem.W.mg_of X G a_law_never_right, k_law_never_right, b_law_never_right⟩
  have F_law_limit_right := fun_mk (st := s_law_limit_right) l_law_limit_right c_law_limit_right k_law_limit_right
  have b_law_limit_right := F_law_limit_right.binds (ps := ["_law_row", "_law_start"]) fun _ _ _ _ _ _ us hl => match us, hl with | [_, _], _ => rfl
  have D_law_limit_right : DfG l.prog w K mg base 10 "_law_limit_right" ["_law_row", "_law_start"] spLimR := ⟨_, _, ok_limr F_law_limit_right TX D_certify_limit D_law_pat D_accepts D_law_frac D_law_limit, PySem.W.mg_of X G a_law_limit_right, k_law_limit_right, b_law_limit_right⟩
  have F_law_refused_right := fun_mk (st := s_law_refused_right) l_law_refused_right c_law_refused_right k_law_refused_right
  have b_law_refused_right := F_law_refused_right.binds (ps := ["_law_tape"]) fun _ _ _ _ _ _ us hl => match us, hl with | [_], _ => rfl
  have D_law_refused_right : DfG l.prog w K mg base 12 "_law_refused_right" ["_law_tape"] (spRef [(PA_law_refused_right, ("_law_refused_right" : Str) ++ ".<locals>.<lambda>"), (PA_law, ("law" : Str) ++ ".<locals>.<lambda>")]) := ⟨_, _, ok_ref (c := cF [X0, X1, X2, X3, X4, X5, X6, X7, X8, X9, X10, X11, X12, X13, X14, X15, X16, X17]) FC_law_refused_right TX CG EF0 EF2 TB_law_refused_right TM_law_refused_right TU_law_refused_right D_law_pick D_law_anyrow D_law_pat D_law_is_load D_certify_neverN D_certify_neverNK D_certify_limitN D_certify_limitNK, PySem.W.mg_of X G a_law_refused_right, k_law_refused_right, b_law_refused_right⟩
  have F_law_right := fun_mk (st := s_law_right) l_law_right c_law_right k_law_right
  have b_law_right := F_law_right.binds (ps := ["_law_tape"]) fun _ _ _ _ _ _ us hl => match us, hl with | [_], _ => rfl
  have D_law_right : DfG l.prog w K mg base 13 "_law_right" ["_law_tape"] (spRight [(PA_law_refused_right, ("_law_refused_right" : Str) ++ ".<locals>.<lambda>"), (PA_law, ("law" : Str) ++ ".<locals>.<lambda>")]) := ⟨_, _, ok_right F_law_right TX D_law_pick D_law_some_row D_law_near D_law_crossing D_law_anyload D_law_never_right D_law_limit_right D_law_refused_right, PySem.W.mg_of X G a_law_right, k_law_right, b_law_right⟩
  exact ok_law FC_law TX D_law_cell D_law_src D_law_right
end RL

set_option maxHeartbeats 2000000
/-! Heads by facts for laws with makers: the top runs once in the kernel; what is told of the part K is a list of Bools and a list of functions. -/
namespace RL
open PySem PySem.Spec PyProof.Rows L2 He
abbrev Ad : Type := PySem.W.Frag → Addr
def rcA (a : Ad) (s : String) : Ad := fun K => match PySem.W.recIn K (a K) s with
  | some (.ref f :: _) => f
  | _ => 0
def glA (x : Str) : Ad := fun K => ga K x
def meA (a : Ad) (m : Str) : Ad := fun K => ma K (a K) m
def cdA (a : Ad) : Ad := fun K => match K.lookup (a K) with
  | some ⟨_, _, .func fd, _⟩ => (match fd.code with
    | .ref c => c
    | _ => 0)
  | _ => 0
def tbA (a : Ad) : Ad := fun K => tabOf K (a K)
/-! ### Bools -/
def intB (x : Str) (i : Int) (K : PySem.W.Frag) : Bool := match PySem.W.nsIn K mainGlobals x with
  | some (some (.int j _)) => decide (j = i)
  | _ => false
theorem intB_ok {x : Str} {i : Int} {K : PySem.W.Frag} (h : intB x i K = true) : ∃ t, PySem.W.nsIn K mainGlobals x = some (some (.int i t)) := by
  unfold intB at h
  split at h
  · next j t e => exact ⟨t, by rw [e, of_decide_eq_true h]⟩
  · cases h
def dB {α : Type} [DecidableEq α] (a b : PySem.W.Frag → α) (K : PySem.W.Frag) : Bool := decide (a K = b K)
def recB (a f : Ad) (s : String) (K : PySem.W.Frag) : Bool := match PySem.W.recIn K (a K) s with
  | some (.ref g :: _) => decide (g = f K)
  | _ => false
theorem recB_ok {a f : Ad} {s : String} {K : PySem.W.Frag} (h : recB a f s K = true) : ∃ rest, PySem.W.recIn K (a K) s = some (.ref (f K) :: rest) := by
  unfold recB at h
  split at h
  · next g r e => exact ⟨r, by rw [e, of_decide_eq_true h]⟩
  · cases h
def codeB (f : Ad) (q : Str) (K : PySem.W.Frag) : Bool := match K.lookup (f K) with
  | some ⟨_, _, .func fd, _⟩ => PySem.W.codeIn K fd.code q
  | _ => false
def fnV (f : Ad) (K : PySem.W.Frag) : FnV := match K.lookup (f K) with
  | some ⟨_, _, .func fd, _⟩ => some (fd.name, fd.qualname, fd.params, fd.body, fd.scope, fd.globals, fd.closure, fd.defaults, fd.builtins)
  | _ => none
structure DnH where
  at_ : Ad
  name : Str
  qual : Str
  st : Stmt
def DnH.val (d : DnH) : FnV := some (d.name, d.qual, defArgs d.st, .stmts (defBody d.st), defScope d.st, mainGlobals, [], .none, builtinsNs)
theorem fnV_ok {f : Ad} {n q : Str} {st : Stmt} {K : PySem.W.Frag} (e : fnV f K = (DnH.mk f n q st).val) (c : codeB f q K = true) :
    ∃ oc od osl kV doc pm an cdv ct, K.lookup (f K) = some ⟨oc, od, .func (PySem.W.fnOf n q (defArgs st) (defBody st) (defScope st) .none kV doc pm an cdv ct), osl⟩ ∧ PySem.W.codeIn K cdv q = true := by
  unfold codeB at c
  unfold fnV DnH.val at e
  cases h : K.lookup (f K) with
  | none =>
    rw [h] at c
    cases c
  | some o =>
    obtain ⟨oc, od, dt, osl⟩ := o
    rw [h] at c e
    cases dt with
    | func fd =>
      obtain ⟨n1, n2, n3, n4, n5, n6, n7, n8, n9, n10, n11, n12, n13, n14, n15⟩ := fd
      have e2 : (some (n1, n2, n3, n4, n5, n6, n7, n8, n15) : FnV) = some (n, q, defArgs st, .stmts (defBody st), defScope st, mainGlobals, [], .none, builtinsNs) := e
      simp only [Option.some.injEq, Prod.mk.injEq] at e2
      obtain ⟨h1, h2, h3, h4, h5, h6, h7, h8, h9⟩ := e2
      subst h1 h2 h3 h4 h5 h6 h7 h8 h9
      exact ⟨oc, od, osl, n9, n10, n11, n12, n13, n14, rfl, c⟩
    | _ => cases c
def tup2i (a : Ad) (i j : Int) (K : PySem.W.Frag) : Bool := match K.lookup (a K) with
  | some ⟨t, _, .seq vs _, _⟩ => decide (t = .type "tuple") && (match vs.toList with
    | [.int x _, .int y _] => decide (x = i) && decide (y = j)
    | _ => false)
  | _ => false
theorem tup2i_ok {a : Ad} {i j : Int} {K : PySem.W.Frag} (h : tup2i a i j K = true) : ∃ od k0 k1 nn sl, K.lookup (a K) = some ⟨.type "tuple", od, .seq #[.int i k0, .int j k1] nn, sl⟩ := by
  unfold tup2i at h
  split at h
  · next t od vs nn sl e =>
    obtain ⟨h1, h2⟩ := ba h
    split at h2
    · next x k0 y k1 ev =>
      obtain ⟨h3, h4⟩ := ba h2
      have h1 := of_decide_eq_true h1
      have h3 := of_decide_eq_true h3
      have h4 := of_decide_eq_true h4
      subst h1 h3 h4
      have : vs = #[.int x k0, .int y k1] := Array.toList_inj.mp ev
      subst this
      exact ⟨od, k0, k1, nn, sl, e⟩
    · cases h2
  · cases h
def tup2s (a : Ad) (i j : Str) (K : PySem.W.Frag) : Bool := match K.lookup (a K) with
  | some ⟨t, _, .seq vs _, _⟩ => decide (t = .type "tuple") && (match vs.toList with
    | [.str x _, .str y _] => decide (x = i) && decide (y = j)
    | _ => false)
  | _ => false
theorem tup2s_ok {a : Ad} {i j : Str} {K : PySem.W.Frag} (h : tup2s a i j K = true) : ∃ od k0 k1 nn sl, K.lookup (a K) = some ⟨.type "tuple", od, .seq #[.str i k0, .str j k1] nn, sl⟩ := by
  unfold tup2s at h
  split at h
  · next t od vs nn sl e =>
    obtain ⟨h1, h2⟩ := ba h
    split at h2
    · next x k0 y k1 ev =>
      obtain ⟨h3, h4⟩ := ba h2
      have h1 := of_decide_eq_true h1
      have h3 := of_decide_eq_true h3
      have h4 := of_decide_eq_true h4
      subst h1 h3 h4
      have : vs = #[.str x k0, .str y k1] := Array.toList_inj.mp ev
      subst this
      exact ⟨od, k0, k1, nn, sl, e⟩
    · cases h2
  · cases h
def smA (a : Ad) (m : Str) : Ad := fun K => match PySem.W.findCls K (.ref (a K)) (.type "type") m with
  | some (.get _ (.ref p) _ _) => p
  | _ => 0
def smB (a p : Ad) (m : Str) (K : PySem.W.Frag) : Bool := match PySem.W.findCls K (.ref (a K)) (.type "type") m with
  | some (.get g (.ref q) z (.ref c)) => decide (g = .builtin "staticmethod.__get__") && (decide (q = p K) && (decide (z = .none) && decide (c = a K)))
  | _ => false
theorem smB_ok {a p : Ad} {m : Str} {K : PySem.W.Frag} (h : smB a p m K = true) : PySem.W.findCls K (.ref (a K)) (.type "type") m = some (.get (.builtin "staticmethod.__get__") (.ref (p K)) .none (.ref (a K))) := by
  unfold smB at h
  split at h
  · next g q z c e =>
    obtain ⟨h1, h2⟩ := ba h
    obtain ⟨h3, h4⟩ := ba h2
    obtain ⟨h5, h6⟩ := ba h4
    rw [e, of_decide_eq_true h1, of_decide_eq_true h3, of_decide_eq_true h5, of_decide_eq_true h6]
  · cases h
def clvB (a f : Ad) (m : Str) (K : PySem.W.Frag) : Bool := match PySem.W.findCls K (.ref (a K)) (.type "type") m with
  | some (.val (.ref q)) => decide (q = f K)
  | _ => false
theorem clvB_ok {a f : Ad} {m : Str} {K : PySem.W.Frag} (h : clvB a f m K = true) : PySem.W.findCls K (.ref (a K)) (.type "type") m = some (.val (.ref (f K))) := by
  unfold clvB at h
  split at h
  · next q e => rw [e, of_decide_eq_true h]
  · cases h
/-! ### a maker's code object -/
theorem cd_ok {f : Ad} {K : PySem.W.Frag} {oc : Value} {od : Option Addr} {osl : Array (Option Value)} {fd : FuncData} {q : Str} (h : K.lookup (f K) = some ⟨oc, od, .func fd, osl⟩) (c : PySem.W.codeIn K fd.code q = true) : fd.code = .ref (cdA f K) := by
  obtain ⟨b, e⟩ := codeIn_ref c
  have : cdA f K = b := by
    unfold cdA
    rw [h]
    dsimp only
    rw [e]
  rw [e, this]
theorem hd_ok {c P : Addr} {K : PySem.W.Frag} (h : PySem.W.codeHdIn K c P = true) : ∃ dC vC sC, K.lookup c = some ⟨.type "code", dC, .fields vC, sC⟩ ∧ (vC[11]? : Option Value) = some (.ref P) := by
  unfold PySem.W.codeHdIn at h
  split at h
  · next dC vs sC hk =>
    simp only [Bool.and_eq_true] at h
    obtain ⟨⟨⟨⟨⟨h1, _⟩, _⟩, _⟩, _⟩, _⟩ := h
    refine ⟨dC, vs, sC, hk, ?_⟩
    split at h1
    · next P' e =>
      have : P' = P := by simpa using h1
      rw [e, this]
    · cases h1
  · cases h
/-! ### the Hook -/
structure SaysZ (fn : List DnH) (tf : List Ad) (ex : List (PySem.W.Frag → Bool)) (h : Heap) (K : PySem.W.Frag) : Prop where
  fns : fn.map (fun d => fnV d.at_ K) = fn.map DnH.val
  more : (ex.all fun e => e K) = true
  hd : ∀ p ∈ tf, PySem.W.codeHdIn K (cdA p K) (tbA (cdA p) K) = true
  out : ∀ p ∈ tf, K.lookup (tbA (cdA p) K) = none
  empty : ∀ p ∈ tf, h.get? (tbA (cdA p) K) = some { cls := .none, data := .fields #[] }
def tabsZ (g : Addr → Option Obj) (tf : List Ad) (K : PySem.W.Frag) : Bool := tf.all fun p => PySem.W.codeHdIn K (cdA p K) (tbA (cdA p) K) && (match g (tbA (cdA p) K) with
  | some o => emptyTab o
  | none => false)
abbrev AlZ : Type := List FnV × Bool × Bool
def obsK (fn : List DnH) (tf : List Ad) (ex : List (PySem.W.Frag → Bool)) (g : Addr → Option Obj) (K : PySem.W.Frag) : AlZ := (fn.map (fun d => fnV d.at_ K), (ex.all fun e => e K), tabsZ g tf K)
def obsZ (n : List Addr) (fn : List DnH) (tf : List Ad) (ex : List (PySem.W.Frag → Bool)) (g : Addr → Option Obj) : AlZ := obsK fn tf ex g (frT g n)
def valZ (fn : List DnH) : AlZ := (fn.map DnH.val, true, true)
theorem saysZ_of {n : List Addr} {fn : List DnH} {tf : List Ad} {ex : List (PySem.W.Frag → Bool)} {h : Heap} (e : obsZ n fn tf ex h.get? = valZ fn) : SaysZ fn tf ex h (frT h.get? n) := by
  have e1 : fn.map (fun d => fnV d.at_ (frT h.get? n)) = fn.map DnH.val := congrArg (fun z : AlZ => z.1) e
  have h1 : (ex.all fun e => e (frT h.get? n)) = true := congrArg (fun z : AlZ => z.2.1) e
  have h2 : tabsZ h.get? tf (frT h.get? n) = true := congrArg (fun z : AlZ => z.2.2) e
  have key : ∀ p ∈ tf, PySem.W.codeHdIn (frT h.get? n) (cdA p (frT h.get? n)) (tbA (cdA p) (frT h.get? n)) = true ∧ ∃ o, h.get? (tbA (cdA p) (frT h.get? n)) = some o ∧ emptyTab o = true := fun p hp => by
    obtain ⟨h3, h4⟩ := ba (List.all_eq_true.mp h2 p hp)
    refine ⟨h3, ?_⟩
    cases q : h.get? (tbA (cdA p) (frT h.get? n)) with
    | none =>
      rw [q] at h4
      cases h4
    | some o =>
      rw [q] at h4
      exact ⟨o, rfl, h4⟩
  exact ⟨e1, h1, fun p hp => (key p hp).1, fun p hp => by
    obtain ⟨_, o, q, z⟩ := key p hp
    exact frT_none q z, fun p hp => by
    obtain ⟨_, o, q, z⟩ := key p hp
    rw [q, emptyTab_eq z]⟩
def hookZ (n : List Addr) (fn : List DnH) (tf : List Ad) (ex : List (PySem.W.Frag → Bool)) : PySem.W.Hook where
  α := AlZ
  obs := fun s => obsZ n fn tf ex s.heap.get?
  val := fun _ => valZ fn
  says := fun _ h => ∃ K : PySem.W.Frag, K.In h ∧ SaysZ fn tf ex h K
  of := fun _ _ e => ⟨_, frT_in, saysZ_of e⟩
  keeps := fun _ _ _ ⟨K, hK, c⟩ k => ⟨K, PySem.W.Frag.In.keeps hK k, ⟨c.fns, c.more, c.hd, c.out, fun p hp => k _ _ (c.empty p hp)⟩⟩
section
variable {fn : List DnH} {tf : List Ad} {ex : List (PySem.W.Frag → Bool)} {h : Heap} {K : PySem.W.Frag}
theorem SaysZ.fact (c : SaysZ fn tf ex h K) (i : Nat) {f : PySem.W.Frag → Bool} (e : ex[i]? = some f := by rfl) : f K = true := List.all_eq_true.mp c.more f (List.mem_of_getElem? e)
theorem SaysZ.defn (c : SaysZ fn tf ex h K) (i : Nat) {d : DnH} (e : fn[i]? = some d := by rfl) : fnV d.at_ K = d.val := by
  have q := congrArg (fun z => z[i]?) c.fns
  simp only [List.getElem?_map, e, Option.map_some] at q
  exact Option.some.inj q
theorem SaysZ.tab (c : SaysZ fn tf ex h K) (i : Nat) {p : Ad} (e : tf[i]? = some p := by rfl) : PySem.W.codeHdIn K (cdA p K) (tbA (cdA p) K) = true ∧ K.lookup (tbA (cdA p) K) = none ∧ h.get? (tbA (cdA p) K) = some (PySem.W.tabObj #[]) :=
  ⟨c.hd p (List.mem_of_getElem? e), c.out p (List.mem_of_getElem? e), c.empty p (List.mem_of_getElem? e)⟩
end
theorem walk_ofZ {l : PySem.W.OpenLaw} {n k : Nat} {q : Program} {loose : List Str} {XP : (Str → Option Value) → Heap → Prop} {YP : World → Heap → Prop} {d : DefRec} {x : Str}
    (hn : l.most = some n) (hn2 : n ≤ sizeLine) (hdf : d.params.defaults = []) (hr : Room k callerA)
    (F : ∀ (w : World) (mg : Str → Option Value) (fa : Addr) (h : Heap), YP w h → h.Ns mainGlobals mg → mg d.name = some (.ref fa) → ∃ K : PySem.W.Frag, K.In h ∧ LawT l w K k n x mg fa h) :
    PySem.W.WalkO q loose XP YP l.row.toRowW d [] (fun f vs => PySem.call f vs) := by
  refine Att.attach_call hn hdf fun w s0 s1 mg mb fa o pm cd doc a vs ns G Y ho hd hcd hmg hobj hints hlen hgen => ?_
  obtain ⟨K, KX, fd, cs, sp, hT, nT, hC, hb, hsp, hF⟩ := F w mg fa _ Y G.T.g hmg
  have rv := vals_ints hints
  have hl : ns.length ≤ sizeLine := Nat.le_trans hlen hn2
  have lenV := hints.length
  have nat : ∀ p ∈ cs, p.2 ≠ a := fun p hp z => by
    have q := hT p hp
    rw [z, hobj] at q
    have z' : Data.seq vs.toArray _ = Data.fields #[] := congrArg Obj.data (Option.some.inj q)
    cases z'
  cases hk : K.lookup a with
  | some ob =>
    have e := KX a ob hk
    rw [hobj] at e
    cases e
    exact law_runT (xs := []) (sc := none) KX G.T.g G.T.b G.T.builtins G.T.nolimit hgen hT nT hC G.T.bmain hobj hr hF hb (.inl rfl) (fun u z => by cases z)
      (hsp _ a ns hlen (fun p hp => startH_t (List.mem_map.mpr ⟨p, hp, rfl⟩) (nat p hp)) (.inr ⟨_, vs.toArray, _, hk, rfl, rfl, rfl, by rw [List.size_toArray, lenV]; exact hl, by simpa using rv⟩))
  | none =>
    exact law_runT (xs := ns.map V.int) (sc := some (.frz { cls := .type "list", data := .seq vs.toArray } (.lst (ns.map V.int)))) KX G.T.g G.T.b G.T.builtins G.T.nolimit hgen hT nT hC G.T.bmain hobj hr hF hb (.inr ⟨hk, rfl⟩)
      (fun u z => by cases z; exact ⟨hobj, by rw [List.length_map]; exact hl, vs, _, rv, hobj⟩) (hsp _ a ns hlen (fun p hp => startH_t (List.mem_map.mpr ⟨p, hp, rfl⟩) (nat p hp)) (.inl (.inr ⟨_, startH_a⟩)))
end RL

set_option maxHeartbeats 2000000
/-! Heads by facts, with tables of texts (dicts at top level): what they hold depends on the world's hashes. -/
namespace RL
open PySem PySem.Spec PyProof.Rows L2 He
abbrev Tz : Type := Ad × List Str
abbrev AlW : Type := AlZ × List (Option (List (Option (Str × Int))))
structure SaysW (fn : List DnH) (tf : List Ad) (ex : List (PySem.W.Frag → Bool)) (ts : List Tz) (w : World) (h : Heap) (K : PySem.W.Frag) : Prop where
  z : SaysZ fn tf ex h K
  d : ts.map (fun t => dicW K (t.1 K)) = ts.map fun t => some (keysIn w.params t.2)
def obsW (n : List Addr) (fn : List DnH) (tf : List Ad) (ex : List (PySem.W.Frag → Bool)) (ts : List Tz) (g : Addr → Option Obj) : AlW := (obsZ n fn tf ex g, ts.map fun t => dicW (frT g n) (t.1 (frT g n)))
def valW (fn : List DnH) (ts : List Tz) (w : World) : AlW := (valZ fn, ts.map fun t => some (keysIn w.params t.2))
def hookW (n : List Addr) (fn : List DnH) (tf : List Ad) (ex : List (PySem.W.Frag → Bool)) (ts : List Tz) : PySem.W.Hook where
  α := AlW
  obs := fun s => obsW n fn tf ex ts s.heap.get?
  val := fun w => valW fn ts w
  says := fun w h => ∃ K : PySem.W.Frag, K.In h ∧ SaysW fn tf ex ts w h K
  of := fun _ _ e => ⟨_, frT_in, saysZ_of (congrArg (fun z : AlW => z.1) e), congrArg (fun z : AlW => z.2) e⟩
  keeps := fun _ _ _ ⟨K, hK, c⟩ k => ⟨K, PySem.W.Frag.In.keeps hK k, ⟨c.z.fns, c.z.more, c.z.hd, c.z.out, fun p hp => k _ _ (c.z.empty p hp)⟩, c.d⟩
theorem obsW_eq {n : List Addr} {fn : List DnH} {tf : List Ad} {ex : List (PySem.W.Frag → Bool)} {ts : List Tz} {g : Addr → Option Obj} {s : Shared} (h : ∀ a, g a = s.heap.get? a) : obsW n fn tf ex ts g = (hookW n fn tf ex ts).obs s := by
  have e : g = s.heap.get? := funext h
  rw [e] <;> rfl
theorem SaysW.dic {fn : List DnH} {tf : List Ad} {ex : List (PySem.W.Frag → Bool)} {ts : List Tz} {w : World} {h : Heap} {K : PySem.W.Frag} (c : SaysW fn tf ex ts w h K) (i : Nat) {t : Tz} (e : ts[i]? = some t := by rfl) : dicW K (t.1 K) = some (keysIn w.params t.2) := by
  have e2 := congrArg (fun z => z[i]?) c.d
  simp only [List.getElem?_map, e, Option.map_some] at e2
  exact Option.some.inj e2
end RL

set_option maxHeartbeats 0
namespace RL
open PySem PySem.Spec PyProof.Rows L2 He
def e0 : PySem.W.Frag → Bool := fun K => intB "GREATEST" 1000000000000 K
def e1 : PySem.W.Frag → Bool := fun K => intB "MOST_OHMS" 12 K
def e2 : PySem.W.Frag → Bool := fun K => intB "MOST_JOINED" 8 K
def e3 : PySem.W.Frag → Bool := fun K => intB "MOST_SECTIONS" 100 K
def e4 : PySem.W.Frag → Bool := fun K => intB "MOST_KINDS" 4 K
def A_aO : Ad := glA "OPEN"
def e5 : PySem.W.Frag → Bool := fun K => decide (PySem.W.nsIn K mainGlobals "OPEN" = some (some (.ref (A_aO K))))
def e6 : PySem.W.Frag → Bool := fun K => tup2i A_aO 1 0 K
def A_aW : Ad := glA "WORDS"
def e7 : PySem.W.Frag → Bool := fun K => decide (PySem.W.nsIn K mainGlobals "WORDS" = some (some (.ref (A_aW K))))
def e8 : PySem.W.Frag → Bool := fun K => tup2s A_aW (Str.ofString "rail") (Str.ofString "rung") K
def A_aCh : Ad := glA "CHECKS"
def e9 : PySem.W.Frag → Bool := fun K => decide (PySem.W.nsIn K mainGlobals "CHECKS" = some (some (.ref (A_aCh K))))
def e10 : PySem.W.Frag → Bool := fun K => decide (PySem.W.nsIn K mainGlobals "len" = some none)
def e11 : PySem.W.Frag → Bool := fun K => decide (PySem.W.nsIn K mainGlobals "abs" = some none)
def e12 : PySem.W.Frag → Bool := fun K => decide (PySem.W.nsIn K mainGlobals "int" = some none)
def e13 : PySem.W.Frag → Bool := fun K => decide (PySem.W.nsIn K mainGlobals "bool" = some none)
def e14 : PySem.W.Frag → Bool := fun K => decide (PySem.W.nsIn K mainGlobals "tuple" = some none)
def e15 : PySem.W.Frag → Bool := fun K => decide (PySem.W.nsIn K mainGlobals "isinstance" = some none)
def e16 : PySem.W.Frag → Bool := fun K => decide (PySem.W.nsIn K mainGlobals "divmod" = some none)
def e17 : PySem.W.Frag → Bool := fun K => decide (PySem.W.nsIn K mainGlobals "max" = some none)
def e18 : PySem.W.Frag → Bool := fun K => decide (PySem.W.nsIn K mainGlobals "min" = some none)
def e19 : PySem.W.Frag → Bool := fun K => decide (PySem.W.nsIn K mainGlobals "range" = some none)
def e20 : PySem.W.Frag → Bool := fun K => decide (PySem.W.nsIn K mainGlobals "all" = some none)
def e21 : PySem.W.Frag → Bool := fun K => decide (PySem.W.nsIn K mainGlobals "repr" = some none)
def e22 : PySem.W.Frag → Bool := fun K => decide (PySem.W.nsIn K mainGlobals "str" = some none)
def e23 : PySem.W.Frag → Bool := fun K => decide (PySem.W.nsIn K mainGlobals "enumerate" = some none)
def e24 : PySem.W.Frag → Bool := fun K => decide (PySem.W.nsIn K mainGlobals "any" = some none)
def e25 : PySem.W.Frag → Bool := fun K => decide (PySem.W.nsIn K mainGlobals "list" = some none)
def e26 : PySem.W.Frag → Bool := fun K => intB "GREATEST_PART" 10000000000000000000000000000000000000000 K
def A_Ce : Ad := glA "Exact"
def e27 : PySem.W.Frag → Bool := fun K => decide (PySem.W.nsIn K mainGlobals "Exact" = some (some (.ref (A_Ce K))))
def e28 : PySem.W.Frag → Bool := fun K => PySem.W.plainGet K (A_Ce K) Str.empty
def e29 : PySem.W.Frag → Bool := fun K => PySem.W.hasDictIn K (A_Ce K)
def e30 : PySem.W.Frag → Bool := fun K => PySem.W.plainOver K (A_Ce K)
def e31 : PySem.W.Frag → Bool := fun K => decide (PySem.W.findIn K (.ref (A_Ce K)) "__setattr__" = some (some (.builtin "object.__setattr__")))
def e32 : PySem.W.Frag → Bool := fun K => PySem.W.makesIn K (A_Ce K)
def e33 : PySem.W.Frag → Bool := fun K => PySem.W.keepIn K (.ref (A_Ce K))
def e34 : PySem.W.Frag → Bool := fun K => decide (PySem.W.findIn K (.ref (A_Ce K)) "parts" = some none)
def e35 : PySem.W.Frag → Bool := fun K => decide (PySem.W.kitOne K (.type "tuple") (.ref (A_Ce K)) = some false)
def e36 : PySem.W.Frag → Bool := fun K => PySem.W.notFirst K (A_Ce K) (.type "tuple")
def A_f_is_integer : Ad := glA "is_integer"
def e37 : PySem.W.Frag → Bool := fun K => decide (PySem.W.nsIn K mainGlobals "is_integer" = some (some (.ref (A_f_is_integer K))))
def e38 : PySem.W.Frag → Bool := fun K => codeB A_f_is_integer "is_integer" K
def d0 : DnH := ⟨A_f_is_integer, "is_integer", "is_integer", s_is_integer⟩
def e39 : PySem.W.Frag → Bool := fun K => PySem.W.keepIn K (.ref (A_f_is_integer K))
def A_f_is_integer_within : Ad := glA "is_integer_within"
def e40 : PySem.W.Frag → Bool := fun K => decide (PySem.W.nsIn K mainGlobals "is_integer_within" = some (some (.ref (A_f_is_integer_within K))))
def e41 : PySem.W.Frag → Bool := fun K => codeB A_f_is_integer_within "is_integer_within" K
def d1 : DnH := ⟨A_f_is_integer_within, "is_integer_within", "is_integer_within", s_is_integer_within⟩
def e42 : PySem.W.Frag → Bool := fun K => PySem.W.keepIn K (.ref (A_f_is_integer_within K))
def A_f_is_pair_of_integers : Ad := glA "is_pair_of_integers"
def e43 : PySem.W.Frag → Bool := fun K => decide (PySem.W.nsIn K mainGlobals "is_pair_of_integers" = some (some (.ref (A_f_is_pair_of_integers K))))
def e44 : PySem.W.Frag → Bool := fun K => codeB A_f_is_pair_of_integers "is_pair_of_integers" K
def d2 : DnH := ⟨A_f_is_pair_of_integers, "is_pair_of_integers", "is_pair_of_integers", s_is_pair_of_integers⟩
def e45 : PySem.W.Frag → Bool := fun K => PySem.W.keepIn K (.ref (A_f_is_pair_of_integers K))
def A_f_is_resistance : Ad := glA "is_resistance"
def e46 : PySem.W.Frag → Bool := fun K => decide (PySem.W.nsIn K mainGlobals "is_resistance" = some (some (.ref (A_f_is_resistance K))))
def e47 : PySem.W.Frag → Bool := fun K => codeB A_f_is_resistance "is_resistance" K
def d3 : DnH := ⟨A_f_is_resistance, "is_resistance", "is_resistance", s_is_resistance⟩
def e48 : PySem.W.Frag → Bool := fun K => PySem.W.keepIn K (.ref (A_f_is_resistance K))
def A_f_pair_of : Ad := glA "pair_of"
def e49 : PySem.W.Frag → Bool := fun K => decide (PySem.W.nsIn K mainGlobals "pair_of" = some (some (.ref (A_f_pair_of K))))
def e50 : PySem.W.Frag → Bool := fun K => codeB A_f_pair_of "pair_of" K
def d4 : DnH := ⟨A_f_pair_of, "pair_of", "pair_of", s_pair_of⟩
def e51 : PySem.W.Frag → Bool := fun K => PySem.W.keepIn K (.ref (A_f_pair_of K))
def A_f_sign : Ad := glA "sign"
def e52 : PySem.W.Frag → Bool := fun K => decide (PySem.W.nsIn K mainGlobals "sign" = some (some (.ref (A_f_sign K))))
def e53 : PySem.W.Frag → Bool := fun K => codeB A_f_sign "sign" K
def d5 : DnH := ⟨A_f_sign, "sign", "sign", s_sign⟩
def e54 : PySem.W.Frag → Bool := fun K => PySem.W.keepIn K (.ref (A_f_sign K))
def A_f_pair_order : Ad := glA "pair_order"
def e55 : PySem.W.Frag → Bool := fun K => decide (PySem.W.nsIn K mainGlobals "pair_order" = some (some (.ref (A_f_pair_order K))))
def e56 : PySem.W.Frag → Bool := fun K => codeB A_f_pair_order "pair_order" K
def d6 : DnH := ⟨A_f_pair_order, "pair_order", "pair_order", s_pair_order⟩
def e57 : PySem.W.Frag → Bool := fun K => PySem.W.keepIn K (.ref (A_f_pair_order K))
def A_f_is_number : Ad := glA "is_number"
def e58 : PySem.W.Frag → Bool := fun K => decide (PySem.W.nsIn K mainGlobals "is_number" = some (some (.ref (A_f_is_number K))))
def e59 : PySem.W.Frag → Bool := fun K => codeB A_f_is_number "is_number" K
def d7 : DnH := ⟨A_f_is_number, "is_number", "is_number", s_is_number⟩
def e60 : PySem.W.Frag → Bool := fun K => PySem.W.keepIn K (.ref (A_f_is_number K))
def A_f_is_piece : Ad := glA "is_piece"
def e61 : PySem.W.Frag → Bool := fun K => decide (PySem.W.nsIn K mainGlobals "is_piece" = some (some (.ref (A_f_is_piece K))))
def e62 : PySem.W.Frag → Bool := fun K => codeB A_f_is_piece "is_piece" K
def d8 : DnH := ⟨A_f_is_piece, "is_piece", "is_piece", s_is_piece⟩
def e63 : PySem.W.Frag → Bool := fun K => PySem.W.keepIn K (.ref (A_f_is_piece K))
def A_f_is_row : Ad := glA "is_row"
def e64 : PySem.W.Frag → Bool := fun K => decide (PySem.W.nsIn K mainGlobals "is_row" = some (some (.ref (A_f_is_row K))))
def e65 : PySem.W.Frag → Bool := fun K => codeB A_f_is_row "is_row" K
def d9 : DnH := ⟨A_f_is_row, "is_row", "is_row", s_is_row⟩
def e66 : PySem.W.Frag → Bool := fun K => PySem.W.keepIn K (.ref (A_f_is_row K))
def A_f_is_empty : Ad := glA "is_empty"
def e67 : PySem.W.Frag → Bool := fun K => decide (PySem.W.nsIn K mainGlobals "is_empty" = some (some (.ref (A_f_is_empty K))))
def e68 : PySem.W.Frag → Bool := fun K => codeB A_f_is_empty "is_empty" K
def d10 : DnH := ⟨A_f_is_empty, "is_empty", "is_empty", s_is_empty⟩
def e69 : PySem.W.Frag → Bool := fun K => PySem.W.keepIn K (.ref (A_f_is_empty K))
def A_f_matrix_and_scale : Ad := glA "matrix_and_scale"
def e70 : PySem.W.Frag → Bool := fun K => decide (PySem.W.nsIn K mainGlobals "matrix_and_scale" = some (some (.ref (A_f_matrix_and_scale K))))
def e71 : PySem.W.Frag → Bool := fun K => codeB A_f_matrix_and_scale "matrix_and_scale" K
def d11 : DnH := ⟨A_f_matrix_and_scale, "matrix_and_scale", "matrix_and_scale", s_matrix_and_scale⟩
def e72 : PySem.W.Frag → Bool := fun K => PySem.W.keepIn K (.ref (A_f_matrix_and_scale K))
def A_f_matrix_of : Ad := glA "matrix_of"
def e73 : PySem.W.Frag → Bool := fun K => decide (PySem.W.nsIn K mainGlobals "matrix_of" = some (some (.ref (A_f_matrix_of K))))
def e74 : PySem.W.Frag → Bool := fun K => codeB A_f_matrix_of "matrix_of" K
def d12 : DnH := ⟨A_f_matrix_of, "matrix_of", "matrix_of", s_matrix_of⟩
def e75 : PySem.W.Frag → Bool := fun K => PySem.W.keepIn K (.ref (A_f_matrix_of K))
def A_f_shown_before : Ad := glA "shown_before"
def e76 : PySem.W.Frag → Bool := fun K => decide (PySem.W.nsIn K mainGlobals "shown_before" = some (some (.ref (A_f_shown_before K))))
def e77 : PySem.W.Frag → Bool := fun K => codeB A_f_shown_before "shown_before" K
def d13 : DnH := ⟨A_f_shown_before, "shown_before", "shown_before", s_shown_before⟩
def e78 : PySem.W.Frag → Bool := fun K => PySem.W.keepIn K (.ref (A_f_shown_before K))
def A_f_common_divisor : Ad := glA "common_divisor"
def e79 : PySem.W.Frag → Bool := fun K => decide (PySem.W.nsIn K mainGlobals "common_divisor" = some (some (.ref (A_f_common_divisor K))))
def e80 : PySem.W.Frag → Bool := fun K => codeB A_f_common_divisor "common_divisor" K
def d14 : DnH := ⟨A_f_common_divisor, "common_divisor", "common_divisor", s_common_divisor⟩
def e81 : PySem.W.Frag → Bool := fun K => PySem.W.keepIn K (.ref (A_f_common_divisor K))
def A_f_lowest_terms : Ad := glA "lowest_terms"
def e82 : PySem.W.Frag → Bool := fun K => decide (PySem.W.nsIn K mainGlobals "lowest_terms" = some (some (.ref (A_f_lowest_terms K))))
def e83 : PySem.W.Frag → Bool := fun K => codeB A_f_lowest_terms "lowest_terms" K
def d15 : DnH := ⟨A_f_lowest_terms, "lowest_terms", "lowest_terms", s_lowest_terms⟩
def e84 : PySem.W.Frag → Bool := fun K => PySem.W.keepIn K (.ref (A_f_lowest_terms K))
def e85 : PySem.W.Frag → Bool := fun K => intB "MOST_PIECES" 4 K
def A_J : Ad := glA "JoinedRow"
def e86 : PySem.W.Frag → Bool := fun K => decide (PySem.W.nsIn K mainGlobals "JoinedRow" = some (some (.ref (A_J K))))
def e87 : PySem.W.Frag → Bool := fun K => PySem.W.plainGet K (A_J K) Str.empty
def e88 : PySem.W.Frag → Bool := fun K => PySem.W.hasDictIn K (A_J K)
def e89 : PySem.W.Frag → Bool := fun K => PySem.W.plainOver K (A_J K)
def e90 : PySem.W.Frag → Bool := fun K => decide (PySem.W.findIn K (.ref (A_J K)) "__setattr__" = some (some (.builtin "object.__setattr__")))
def e91 : PySem.W.Frag → Bool := fun K => PySem.W.makesIn K (A_J K)
def e92 : PySem.W.Frag → Bool := fun K => PySem.W.keepIn K (.ref (A_J K))
def e93 : PySem.W.Frag → Bool := fun K => decide (PySem.W.findIn K (.ref (A_J K)) "row" = some none)
def e94 : PySem.W.Frag → Bool := fun K => decide (PySem.W.findIn K (.ref (A_J K)) "__class__" = some (some (.builtin "object.__class__")))
def e95 : PySem.W.Frag → Bool := fun K => decide (PySem.W.mroIn K (A_J K) (.type "object") = some true)
def e96 : PySem.W.Frag → Bool := fun K => decide (PySem.W.specialIn K (.builtin "object.__class__") "__get__" = some (some (.builtin "getset_descriptor.__get__")))
def e97 : PySem.W.Frag → Bool := fun K => decide (PySem.W.takesIn K (.builtin "object.__class__") = some true)
def A_C : Ad := glA "Pattern"
def e98 : PySem.W.Frag → Bool := fun K => decide (PySem.W.nsIn K mainGlobals "Pattern" = some (some (.ref (A_C K))))
def e99 : PySem.W.Frag → Bool := fun K => PySem.W.plainGet K (A_C K) Str.empty
def e100 : PySem.W.Frag → Bool := fun K => PySem.W.hasDictIn K (A_C K)
def e101 : PySem.W.Frag → Bool := fun K => PySem.W.plainOver K (A_C K)
def e102 : PySem.W.Frag → Bool := fun K => decide (PySem.W.findIn K (.ref (A_C K)) "__setattr__" = some (some (.builtin "object.__setattr__")))
def e103 : PySem.W.Frag → Bool := fun K => PySem.W.makesIn K (A_C K)
def e104 : PySem.W.Frag → Bool := fun K => PySem.W.keepIn K (.ref (A_C K))
def e105 : PySem.W.Frag → Bool := fun K => decide (PySem.W.findIn K (.ref (A_C K)) "row" = some none)
def e106 : PySem.W.Frag → Bool := fun K => decide (PySem.W.findIn K (.ref (A_C K)) "matrix" = some none)
def e107 : PySem.W.Frag → Bool := fun K => decide (PySem.W.findIn K (.ref (A_C K)) "scale" = some none)
def e108 : PySem.W.Frag → Bool := fun K => decide (PySem.W.findIn K (.ref (A_C K)) "four" = some none)
def e109 : PySem.W.Frag → Bool := fun K => decide (PySem.W.findIn K (.ref (A_C K)) "__class__" = some (some (.builtin "object.__class__")))
def e110 : PySem.W.Frag → Bool := fun K => decide (PySem.W.mroIn K (A_C K) (.type "object") = some true)
def e111 : PySem.W.Frag → Bool := fun K => decide (PySem.W.kitOne K (.type "tuple") (.ref (A_J K)) = some false)
def e112 : PySem.W.Frag → Bool := fun K => PySem.W.readsIn K (A_C K) (.type "type")
def e113 : PySem.W.Frag → Bool := fun K => decide (PySem.W.specialIn K (.ref (A_C K)) "__getattribute__" = some (some (.builtin "type.__getattribute__")))
def A_f_checked_row : Ad := glA "checked_row"
def e114 : PySem.W.Frag → Bool := fun K => decide (PySem.W.nsIn K mainGlobals "checked_row" = some (some (.ref (A_f_checked_row K))))
def e115 : PySem.W.Frag → Bool := fun K => codeB A_f_checked_row "checked_row" K
def d16 : DnH := ⟨A_f_checked_row, "checked_row", "checked_row", s_checked_row⟩
def e116 : PySem.W.Frag → Bool := fun K => PySem.W.keepIn K (.ref (A_f_checked_row K))
def A_f_lowest_pair : Ad := glA "lowest_pair"
def e117 : PySem.W.Frag → Bool := fun K => decide (PySem.W.nsIn K mainGlobals "lowest_pair" = some (some (.ref (A_f_lowest_pair K))))
def e118 : PySem.W.Frag → Bool := fun K => codeB A_f_lowest_pair "lowest_pair" K
def d17 : DnH := ⟨A_f_lowest_pair, "lowest_pair", "lowest_pair", s_lowest_pair⟩
def e119 : PySem.W.Frag → Bool := fun K => PySem.W.keepIn K (.ref (A_f_lowest_pair K))
def A_f_piece_text : Ad := glA "piece_text"
def e120 : PySem.W.Frag → Bool := fun K => decide (PySem.W.nsIn K mainGlobals "piece_text" = some (some (.ref (A_f_piece_text K))))
def e121 : PySem.W.Frag → Bool := fun K => codeB A_f_piece_text "piece_text" K
def d18 : DnH := ⟨A_f_piece_text, "piece_text", "piece_text", s_piece_text⟩
def e122 : PySem.W.Frag → Bool := fun K => PySem.W.keepIn K (.ref (A_f_piece_text K))
def A_f_piece_with_text : Ad := glA "piece_with_text"
def e123 : PySem.W.Frag → Bool := fun K => decide (PySem.W.nsIn K mainGlobals "piece_with_text" = some (some (.ref (A_f_piece_with_text K))))
def e124 : PySem.W.Frag → Bool := fun K => codeB A_f_piece_with_text "piece_with_text" K
def d19 : DnH := ⟨A_f_piece_with_text, "piece_with_text", "piece_with_text", s_piece_with_text⟩
def e125 : PySem.W.Frag → Bool := fun K => PySem.W.keepIn K (.ref (A_f_piece_with_text K))
def A_f_JoinedRow_init : Ad := meA A_J "__init__"
def e126 : PySem.W.Frag → Bool := fun K => decide (PySem.W.findIn K (.ref (A_J K)) "__init__" = some (some (.ref (A_f_JoinedRow_init K))))
def e127 : PySem.W.Frag → Bool := fun K => PySem.W.isFn K (.ref (A_f_JoinedRow_init K))
def e128 : PySem.W.Frag → Bool := fun K => codeB A_f_JoinedRow_init "JoinedRow.__init__" K
def d20 : DnH := ⟨A_f_JoinedRow_init, "__init__", "JoinedRow.__init__", s_JoinedRow_init⟩
def e129 : PySem.W.Frag → Bool := fun K => PySem.W.keepIn K (.ref (A_f_JoinedRow_init K))
def A_f_Pattern_init : Ad := meA A_C "__init__"
def e130 : PySem.W.Frag → Bool := fun K => decide (PySem.W.findIn K (.ref (A_C K)) "__init__" = some (some (.ref (A_f_Pattern_init K))))
def e131 : PySem.W.Frag → Bool := fun K => PySem.W.isFn K (.ref (A_f_Pattern_init K))
def e132 : PySem.W.Frag → Bool := fun K => codeB A_f_Pattern_init "Pattern.__init__" K
def d21 : DnH := ⟨A_f_Pattern_init, "__init__", "Pattern.__init__", s_Pattern_init⟩
def e133 : PySem.W.Frag → Bool := fun K => PySem.W.keepIn K (.ref (A_f_Pattern_init K))
def A_pr_Pattern_read : Ad := smA A_C "read"
def e134 : PySem.W.Frag → Bool := fun K => smB A_C A_pr_Pattern_read "read" K
def A_f_Pattern_read : Ad := rcA A_pr_Pattern_read "staticmethod"
def e135 : PySem.W.Frag → Bool := fun K => recB A_pr_Pattern_read A_f_Pattern_read "staticmethod" K
def e136 : PySem.W.Frag → Bool := fun K => codeB A_f_Pattern_read "Pattern.read" K
def d22 : DnH := ⟨A_f_Pattern_read, "read", "Pattern.read", s_Pattern_read⟩
def e137 : PySem.W.Frag → Bool := fun K => PySem.W.keepIn K (.ref (A_f_Pattern_read K))
def A_pr_Pattern_pieces : Ad := meA A_C "pieces"
def e138 : PySem.W.Frag → Bool := fun K => decide (PySem.W.findIn K (.ref (A_C K)) "pieces" = some (some (.ref (A_pr_Pattern_pieces K))))
def e139 : PySem.W.Frag → Bool := fun K => decide (PySem.W.specialIn K (.ref (A_pr_Pattern_pieces K)) "__get__" = some (some (.builtin "property.__get__")))
def e140 : PySem.W.Frag → Bool := fun K => decide (PySem.W.takesIn K (.ref (A_pr_Pattern_pieces K)) = some true)
def A_f_Pattern_pieces : Ad := rcA A_pr_Pattern_pieces "property"
def e141 : PySem.W.Frag → Bool := fun K => recB A_pr_Pattern_pieces A_f_Pattern_pieces "property" K
def e142 : PySem.W.Frag → Bool := fun K => codeB A_f_Pattern_pieces "Pattern.pieces" K
def d23 : DnH := ⟨A_f_Pattern_pieces, "pieces", "Pattern.pieces", s_Pattern_pieces⟩
def e143 : PySem.W.Frag → Bool := fun K => PySem.W.keepIn K (.ref (A_f_Pattern_pieces K))
def e144 : PySem.W.Frag → Bool := fun K => decide (PySem.W.kitOne K (.type "NoneType") (.ref (A_C K)) = some false)
def e145 : PySem.W.Frag → Bool := fun K => decide (PySem.W.kitOne K (.type "bool") (.ref (A_C K)) = some false)
def e146 : PySem.W.Frag → Bool := fun K => decide (PySem.W.kitOne K (.type "int") (.ref (A_C K)) = some false)
def e147 : PySem.W.Frag → Bool := fun K => decide (PySem.W.kitOne K (.type "str") (.ref (A_C K)) = some false)
def e148 : PySem.W.Frag → Bool := fun K => decide (PySem.W.kitOne K (.type "list") (.ref (A_C K)) = some false)
def e149 : PySem.W.Frag → Bool := fun K => decide (PySem.W.kitOne K (.type "dict") (.ref (A_C K)) = some false)
def e150 : PySem.W.Frag → Bool := fun K => decide (PySem.W.kitOne K (.type "tuple") (.ref (A_C K)) = some false)
def A_f_difference : Ad := glA "difference"
def e151 : PySem.W.Frag → Bool := fun K => decide (PySem.W.nsIn K mainGlobals "difference" = some (some (.ref (A_f_difference K))))
def e152 : PySem.W.Frag → Bool := fun K => codeB A_f_difference "difference" K
def d24 : DnH := ⟨A_f_difference, "difference", "difference", s_difference⟩
def e153 : PySem.W.Frag → Bool := fun K => PySem.W.keepIn K (.ref (A_f_difference K))
def A_f_sign_at : Ad := glA "sign_at"
def e154 : PySem.W.Frag → Bool := fun K => decide (PySem.W.nsIn K mainGlobals "sign_at" = some (some (.ref (A_f_sign_at K))))
def e155 : PySem.W.Frag → Bool := fun K => codeB A_f_sign_at "sign_at" K
def d25 : DnH := ⟨A_f_sign_at, "sign_at", "sign_at", s_sign_at⟩
def e156 : PySem.W.Frag → Bool := fun K => PySem.W.keepIn K (.ref (A_f_sign_at K))
def A_f_sign_far_out : Ad := glA "sign_far_out"
def e157 : PySem.W.Frag → Bool := fun K => decide (PySem.W.nsIn K mainGlobals "sign_far_out" = some (some (.ref (A_f_sign_far_out K))))
def e158 : PySem.W.Frag → Bool := fun K => codeB A_f_sign_far_out "sign_far_out" K
def d26 : DnH := ⟨A_f_sign_far_out, "sign_far_out", "sign_far_out", s_sign_far_out⟩
def e159 : PySem.W.Frag → Bool := fun K => PySem.W.keepIn K (.ref (A_f_sign_far_out K))
def A_f_sign_from : Ad := glA "sign_from"
def e160 : PySem.W.Frag → Bool := fun K => decide (PySem.W.nsIn K mainGlobals "sign_from" = some (some (.ref (A_f_sign_from K))))
def e161 : PySem.W.Frag → Bool := fun K => codeB A_f_sign_from "sign_from" K
def d27 : DnH := ⟨A_f_sign_from, "sign_from", "sign_from", s_sign_from⟩
def e162 : PySem.W.Frag → Bool := fun K => PySem.W.keepIn K (.ref (A_f_sign_from K))
def A_f_sign_towards : Ad := glA "sign_towards"
def e163 : PySem.W.Frag → Bool := fun K => decide (PySem.W.nsIn K mainGlobals "sign_towards" = some (some (.ref (A_f_sign_towards K))))
def e164 : PySem.W.Frag → Bool := fun K => codeB A_f_sign_towards "sign_towards" K
def d28 : DnH := ⟨A_f_sign_towards, "sign_towards", "sign_towards", s_sign_towards⟩
def e165 : PySem.W.Frag → Bool := fun K => PySem.W.keepIn K (.ref (A_f_sign_towards K))
def A_f_limit_beside : Ad := glA "limit_beside"
def e166 : PySem.W.Frag → Bool := fun K => decide (PySem.W.nsIn K mainGlobals "limit_beside" = some (some (.ref (A_f_limit_beside K))))
def e167 : PySem.W.Frag → Bool := fun K => codeB A_f_limit_beside "limit_beside" K
def d29 : DnH := ⟨A_f_limit_beside, "limit_beside", "limit_beside", s_limit_beside⟩
def e168 : PySem.W.Frag → Bool := fun K => PySem.W.keepIn K (.ref (A_f_limit_beside K))
def A_f_never_below : Ad := glA "never_below"
def e169 : PySem.W.Frag → Bool := fun K => decide (PySem.W.nsIn K mainGlobals "never_below" = some (some (.ref (A_f_never_below K))))
def e170 : PySem.W.Frag → Bool := fun K => codeB A_f_never_below "never_below" K
def d30 : DnH := ⟨A_f_never_below, "never_below", "never_below", s_never_below⟩
def e171 : PySem.W.Frag → Bool := fun K => PySem.W.keepIn K (.ref (A_f_never_below K))
def A_f_square_root : Ad := glA "square_root"
def e172 : PySem.W.Frag → Bool := fun K => decide (PySem.W.nsIn K mainGlobals "square_root" = some (some (.ref (A_f_square_root K))))
def e173 : PySem.W.Frag → Bool := fun K => codeB A_f_square_root "square_root" K
def d31 : DnH := ⟨A_f_square_root, "square_root", "square_root", s_square_root⟩
def e174 : PySem.W.Frag → Bool := fun K => PySem.W.keepIn K (.ref (A_f_square_root K))
def A_f_under_root : Ad := glA "under_root"
def e175 : PySem.W.Frag → Bool := fun K => decide (PySem.W.nsIn K mainGlobals "under_root" = some (some (.ref (A_f_under_root K))))
def e176 : PySem.W.Frag → Bool := fun K => codeB A_f_under_root "under_root" K
def d32 : DnH := ⟨A_f_under_root, "under_root", "under_root", s_under_root⟩
def e177 : PySem.W.Frag → Bool := fun K => PySem.W.keepIn K (.ref (A_f_under_root K))
def A_f_equation_of_fraction : Ad := glA "equation_of_fraction"
def e178 : PySem.W.Frag → Bool := fun K => decide (PySem.W.nsIn K mainGlobals "equation_of_fraction" = some (some (.ref (A_f_equation_of_fraction K))))
def e179 : PySem.W.Frag → Bool := fun K => codeB A_f_equation_of_fraction "equation_of_fraction" K
def d33 : DnH := ⟨A_f_equation_of_fraction, "equation_of_fraction", "equation_of_fraction", s_equation_of_fraction⟩
def e180 : PySem.W.Frag → Bool := fun K => PySem.W.keepIn K (.ref (A_f_equation_of_fraction K))
def A_f_simplest_equation : Ad := glA "simplest_equation"
def e181 : PySem.W.Frag → Bool := fun K => decide (PySem.W.nsIn K mainGlobals "simplest_equation" = some (some (.ref (A_f_simplest_equation K))))
def e182 : PySem.W.Frag → Bool := fun K => codeB A_f_simplest_equation "simplest_equation" K
def d34 : DnH := ⟨A_f_simplest_equation, "simplest_equation", "simplest_equation", s_simplest_equation⟩
def e183 : PySem.W.Frag → Bool := fun K => PySem.W.keepIn K (.ref (A_f_simplest_equation K))
def A_f_Exact_init : Ad := meA A_Ce "__init__"
def e184 : PySem.W.Frag → Bool := fun K => decide (PySem.W.findIn K (.ref (A_Ce K)) "__init__" = some (some (.ref (A_f_Exact_init K))))
def e185 : PySem.W.Frag → Bool := fun K => PySem.W.isFn K (.ref (A_f_Exact_init K))
def e186 : PySem.W.Frag → Bool := fun K => codeB A_f_Exact_init "Exact.__init__" K
def d35 : DnH := ⟨A_f_Exact_init, "__init__", "Exact.__init__", s_Exact_init⟩
def e187 : PySem.W.Frag → Bool := fun K => PySem.W.keepIn K (.ref (A_f_Exact_init K))
def A_f_Exact_eq : Ad := meA A_Ce "__eq__"
def e188 : PySem.W.Frag → Bool := fun K => decide (PySem.W.findIn K (.ref (A_Ce K)) "__eq__" = some (some (.ref (A_f_Exact_eq K))))
def e189 : PySem.W.Frag → Bool := fun K => PySem.W.isFn K (.ref (A_f_Exact_eq K))
def e190 : PySem.W.Frag → Bool := fun K => codeB A_f_Exact_eq "Exact.__eq__" K
def d36 : DnH := ⟨A_f_Exact_eq, "__eq__", "Exact.__eq__", s_Exact_eq⟩
def e191 : PySem.W.Frag → Bool := fun K => PySem.W.keepIn K (.ref (A_f_Exact_eq K))
def A_pr_Exact_equation : Ad := meA A_Ce "equation"
def e192 : PySem.W.Frag → Bool := fun K => decide (PySem.W.findIn K (.ref (A_Ce K)) "equation" = some (some (.ref (A_pr_Exact_equation K))))
def e193 : PySem.W.Frag → Bool := fun K => decide (PySem.W.specialIn K (.ref (A_pr_Exact_equation K)) "__get__" = some (some (.builtin "property.__get__")))
def e194 : PySem.W.Frag → Bool := fun K => decide (PySem.W.takesIn K (.ref (A_pr_Exact_equation K)) = some true)
def A_f_Exact_equation : Ad := rcA A_pr_Exact_equation "property"
def e195 : PySem.W.Frag → Bool := fun K => recB A_pr_Exact_equation A_f_Exact_equation "property" K
def e196 : PySem.W.Frag → Bool := fun K => codeB A_f_Exact_equation "Exact.equation" K
def d37 : DnH := ⟨A_f_Exact_equation, "equation", "Exact.equation", s_Exact_equation⟩
def e197 : PySem.W.Frag → Bool := fun K => PySem.W.keepIn K (.ref (A_f_Exact_equation K))
def A_f_ladder_limit : Ad := glA "ladder_limit"
def e198 : PySem.W.Frag → Bool := fun K => decide (PySem.W.nsIn K mainGlobals "ladder_limit" = some (some (.ref (A_f_ladder_limit K))))
def e199 : PySem.W.Frag → Bool := fun K => codeB A_f_ladder_limit "ladder_limit" K
def d38 : DnH := ⟨A_f_ladder_limit, "ladder_limit", "ladder_limit", s_ladder_limit⟩
def e200 : PySem.W.Frag → Bool := fun K => PySem.W.keepIn K (.ref (A_f_ladder_limit K))
def A_f_check_pattern : Ad := glA "check_pattern"
def e201 : PySem.W.Frag → Bool := fun K => decide (PySem.W.nsIn K mainGlobals "check_pattern" = some (some (.ref (A_f_check_pattern K))))
def e202 : PySem.W.Frag → Bool := fun K => codeB A_f_check_pattern "check_pattern" K
def d39 : DnH := ⟨A_f_check_pattern, "check_pattern", "check_pattern", s_check_pattern⟩
def e203 : PySem.W.Frag → Bool := fun K => PySem.W.keepIn K (.ref (A_f_check_pattern K))
def A_f_check_resistance : Ad := glA "check_resistance"
def e204 : PySem.W.Frag → Bool := fun K => decide (PySem.W.nsIn K mainGlobals "check_resistance" = some (some (.ref (A_f_check_resistance K))))
def e205 : PySem.W.Frag → Bool := fun K => codeB A_f_check_resistance "check_resistance" K
def d40 : DnH := ⟨A_f_check_resistance, "check_resistance", "check_resistance", s_check_resistance⟩
def e206 : PySem.W.Frag → Bool := fun K => PySem.W.keepIn K (.ref (A_f_check_resistance K))
def A_f_times : Ad := glA "times"
def e207 : PySem.W.Frag → Bool := fun K => decide (PySem.W.nsIn K mainGlobals "times" = some (some (.ref (A_f_times K))))
def e208 : PySem.W.Frag → Bool := fun K => codeB A_f_times "times" K
def d41 : DnH := ⟨A_f_times, "times", "times", s_times⟩
def e209 : PySem.W.Frag → Bool := fun K => PySem.W.keepIn K (.ref (A_f_times K))
def A_f_more_load : Ad := glA "more_load"
def e210 : PySem.W.Frag → Bool := fun K => decide (PySem.W.nsIn K mainGlobals "more_load" = some (some (.ref (A_f_more_load K))))
def e211 : PySem.W.Frag → Bool := fun K => codeB A_f_more_load "more_load" K
def d42 : DnH := ⟨A_f_more_load, "more_load", "more_load", s_more_load⟩
def e212 : PySem.W.Frag → Bool := fun K => PySem.W.keepIn K (.ref (A_f_more_load K))
def A_f_certify_never : Ad := glA "certify_never"
def e213 : PySem.W.Frag → Bool := fun K => decide (PySem.W.nsIn K mainGlobals "certify_never" = some (some (.ref (A_f_certify_never K))))
def e214 : PySem.W.Frag → Bool := fun K => codeB A_f_certify_never "certify_never" K
def d43 : DnH := ⟨A_f_certify_never, "certify_never", "certify_never", s_certify_never⟩
def e215 : PySem.W.Frag → Bool := fun K => PySem.W.keepIn K (.ref (A_f_certify_never K))
def A_f_certify_limit : Ad := glA "certify_limit"
def e216 : PySem.W.Frag → Bool := fun K => decide (PySem.W.nsIn K mainGlobals "certify_limit" = some (some (.ref (A_f_certify_limit K))))
def e217 : PySem.W.Frag → Bool := fun K => codeB A_f_certify_limit "certify_limit" K
def d44 : DnH := ⟨A_f_certify_limit, "certify_limit", "certify_limit", s_certify_limit⟩
def e218 : PySem.W.Frag → Bool := fun K => PySem.W.keepIn K (.ref (A_f_certify_limit K))
def A_f_check_never : Ad := glA "check_never"
def e219 : PySem.W.Frag → Bool := fun K => decide (PySem.W.nsIn K mainGlobals "check_never" = some (some (.ref (A_f_check_never K))))
def e220 : PySem.W.Frag → Bool := fun K => codeB A_f_check_never "check_never" K
def d45 : DnH := ⟨A_f_check_never, "check_never", "check_never", s_check_never⟩
def e221 : PySem.W.Frag → Bool := fun K => PySem.W.keepIn K (.ref (A_f_check_never K))
def A_f_check_more : Ad := glA "check_more"
def e222 : PySem.W.Frag → Bool := fun K => decide (PySem.W.nsIn K mainGlobals "check_more" = some (some (.ref (A_f_check_more K))))
def e223 : PySem.W.Frag → Bool := fun K => codeB A_f_check_more "check_more" K
def d46 : DnH := ⟨A_f_check_more, "check_more", "check_more", s_check_more⟩
def e224 : PySem.W.Frag → Bool := fun K => PySem.W.keepIn K (.ref (A_f_check_more K))
def A_f_check_limit : Ad := glA "check_limit"
def e225 : PySem.W.Frag → Bool := fun K => decide (PySem.W.nsIn K mainGlobals "check_limit" = some (some (.ref (A_f_check_limit K))))
def e226 : PySem.W.Frag → Bool := fun K => codeB A_f_check_limit "check_limit" K
def d47 : DnH := ⟨A_f_check_limit, "check_limit", "check_limit", s_check_limit⟩
def e227 : PySem.W.Frag → Bool := fun K => PySem.W.keepIn K (.ref (A_f_check_limit K))
def e228 : PySem.W.Frag → Bool := fun K => decide (PySem.W.nsIn K (A_aCh K) "never" = some (some (.ref (A_f_check_never K))))
def e229 : PySem.W.Frag → Bool := fun K => decide (PySem.W.nsIn K (A_aCh K) "more" = some (some (.ref (A_f_check_more K))))
def e230 : PySem.W.Frag → Bool := fun K => decide (PySem.W.nsIn K (A_aCh K) "limit" = some (some (.ref (A_f_check_limit K))))
def e231 : PySem.W.Frag → Bool := fun K => decide ([(A_f_check_never K), (A_f_check_more K), (A_f_check_limit K)].Nodup)
def A_f_accepts : Ad := glA "accepts"
def e232 : PySem.W.Frag → Bool := fun K => decide (PySem.W.nsIn K mainGlobals "accepts" = some (some (.ref (A_f_accepts K))))
def e233 : PySem.W.Frag → Bool := fun K => codeB A_f_accepts "accepts" K
def d48 : DnH := ⟨A_f_accepts, "accepts", "accepts", s_accepts⟩
def e234 : PySem.W.Frag → Bool := fun K => PySem.W.keepIn K (.ref (A_f_accepts K))
def A_X0 : Ad := glA "NotAPattern"
def e235 : PySem.W.Frag → Bool := fun K => decide (PySem.W.nsIn K mainGlobals "NotAPattern" = some (some (.ref (A_X0 K))))
def A_X1 : Ad := glA "NotARun"
def e236 : PySem.W.Frag → Bool := fun K => decide (PySem.W.nsIn K mainGlobals "NotARun" = some (some (.ref (A_X1 K))))
def A_X2 : Ad := glA "InvalidResistance"
def e237 : PySem.W.Frag → Bool := fun K => decide (PySem.W.nsIn K mainGlobals "InvalidResistance" = some (some (.ref (A_X2 K))))
def A_X3 : Ad := glA "InvalidCount"
def e238 : PySem.W.Frag → Bool := fun K => decide (PySem.W.nsIn K mainGlobals "InvalidCount" = some (some (.ref (A_X3 K))))
def A_X4 : Ad := glA "InvalidText"
def e239 : PySem.W.Frag → Bool := fun K => decide (PySem.W.nsIn K mainGlobals "InvalidText" = some (some (.ref (A_X4 K))))
def A_X5 : Ad := glA "InvalidName"
def e240 : PySem.W.Frag → Bool := fun K => decide (PySem.W.nsIn K mainGlobals "InvalidName" = some (some (.ref (A_X5 K))))
def A_X6 : Ad := glA "InvalidClaim"
def e241 : PySem.W.Frag → Bool := fun K => decide (PySem.W.nsIn K mainGlobals "InvalidClaim" = some (some (.ref (A_X6 K))))
def A_X7 : Ad := glA "InvalidIndex"
def e242 : PySem.W.Frag → Bool := fun K => decide (PySem.W.nsIn K mainGlobals "InvalidIndex" = some (some (.ref (A_X7 K))))
def A_X8 : Ad := glA "InvalidDeeds"
def e243 : PySem.W.Frag → Bool := fun K => decide (PySem.W.nsIn K mainGlobals "InvalidDeeds" = some (some (.ref (A_X8 K))))
def A_X9 : Ad := glA "UnknownName"
def e244 : PySem.W.Frag → Bool := fun K => decide (PySem.W.nsIn K mainGlobals "UnknownName" = some (some (.ref (A_X9 K))))
def A_X10 : Ad := glA "InUse"
def e245 : PySem.W.Frag → Bool := fun K => decide (PySem.W.nsIn K mainGlobals "InUse" = some (some (.ref (A_X10 K))))
def A_X11 : Ad := glA "TooMany"
def e246 : PySem.W.Frag → Bool := fun K => decide (PySem.W.nsIn K mainGlobals "TooMany" = some (some (.ref (A_X11 K))))
def A_X12 : Ad := glA "Broken"
def e247 : PySem.W.Frag → Bool := fun K => decide (PySem.W.nsIn K mainGlobals "Broken" = some (some (.ref (A_X12 K))))
def A_X13 : Ad := glA "NoLimit"
def e248 : PySem.W.Frag → Bool := fun K => decide (PySem.W.nsIn K mainGlobals "NoLimit" = some (some (.ref (A_X13 K))))
def A_X14 : Ad := glA "NothingToUndo"
def e249 : PySem.W.Frag → Bool := fun K => decide (PySem.W.nsIn K mainGlobals "NothingToUndo" = some (some (.ref (A_X14 K))))
def A_X15 : Ad := glA "WrongValue"
def e250 : PySem.W.Frag → Bool := fun K => decide (PySem.W.nsIn K mainGlobals "WrongValue" = some (some (.ref (A_X15 K))))
def A_X16 : Ad := glA "WrongName"
def e251 : PySem.W.Frag → Bool := fun K => decide (PySem.W.nsIn K mainGlobals "WrongName" = some (some (.ref (A_X16 K))))
def A_X17 : Ad := glA "NoAnswer"
def e252 : PySem.W.Frag → Bool := fun K => decide (PySem.W.nsIn K mainGlobals "NoAnswer" = some (some (.ref (A_X17 K))))
def A_f_WrongValue_init : Ad := meA A_X15 "__init__"
def e253 : PySem.W.Frag → Bool := fun K => decide (PySem.W.findIn K (.ref (A_X15 K)) "__init__" = some (some (.ref (A_f_WrongValue_init K))))
def e254 : PySem.W.Frag → Bool := fun K => PySem.W.isFn K (.ref (A_f_WrongValue_init K))
def e255 : PySem.W.Frag → Bool := fun K => codeB A_f_WrongValue_init "WrongValue.__init__" K
def d49 : DnH := ⟨A_f_WrongValue_init, "__init__", "WrongValue.__init__", s_WrongValue_init⟩
def e256 : PySem.W.Frag → Bool := fun K => PySem.W.keepIn K (.ref (A_f_WrongValue_init K))
def e257 : PySem.W.Frag → Bool := fun K => PySem.W.readsIn K (A_X15 K) (.type "type")
def e258 : PySem.W.Frag → Bool := fun K => decide (PySem.W.specialIn K (.ref (A_X15 K)) "__getattribute__" = some (some (.builtin "type.__getattribute__")))
def e259 : PySem.W.Frag → Bool := fun K => clvB A_X15 A_f_WrongValue_init "__init__" K
def A_f_NotAPattern_init : Ad := meA A_X0 "__init__"
def e260 : PySem.W.Frag → Bool := fun K => decide (PySem.W.findIn K (.ref (A_X0 K)) "__init__" = some (some (.ref (A_f_NotAPattern_init K))))
def e261 : PySem.W.Frag → Bool := fun K => PySem.W.isFn K (.ref (A_f_NotAPattern_init K))
def e262 : PySem.W.Frag → Bool := fun K => codeB A_f_NotAPattern_init "NotAPattern.__init__" K
def d50 : DnH := ⟨A_f_NotAPattern_init, "__init__", "NotAPattern.__init__", s_NotAPattern_init⟩
def e263 : PySem.W.Frag → Bool := fun K => PySem.W.keepIn K (.ref (A_f_NotAPattern_init K))
def e264 : PySem.W.Frag → Bool := fun K => xcB K (A_X0 K) [.type "ValueError", .type "Exception", .type "BaseException", .type "object"] "ValueError.__new__"
def e265 : PySem.W.Frag → Bool := fun K => rowBF K [(A_X0 K), (A_X1 K), (A_X2 K), (A_X3 K), (A_X4 K), (A_X5 K), (A_X6 K), (A_X7 K), (A_X8 K), (A_X9 K), (A_X10 K), (A_X11 K), (A_X12 K), (A_X13 K), (A_X14 K), (A_X15 K), (A_X16 K), (A_X17 K)] 0
def e266 : PySem.W.Frag → Bool := fun K => decide (PySem.W.exmAny K (.ref (A_X0 K)) [.ref (A_X15 K), .ref (A_X16 K), .ref (A_X17 K)] = some true)
def e267 : PySem.W.Frag → Bool := fun K => decide (PySem.W.typeIn K (.ref (A_X0 K)) = some (.type "type"))
def e268 : PySem.W.Frag → Bool := fun K => decide (PySem.W.findIn K (.ref (A_X0 K)) "given" = some none)
def A_f_InvalidResistance_init : Ad := meA A_X2 "__init__"
def e269 : PySem.W.Frag → Bool := fun K => decide (PySem.W.findIn K (.ref (A_X2 K)) "__init__" = some (some (.ref (A_f_InvalidResistance_init K))))
def e270 : PySem.W.Frag → Bool := fun K => PySem.W.isFn K (.ref (A_f_InvalidResistance_init K))
def e271 : PySem.W.Frag → Bool := fun K => codeB A_f_InvalidResistance_init "InvalidResistance.__init__" K
def d51 : DnH := ⟨A_f_InvalidResistance_init, "__init__", "InvalidResistance.__init__", s_InvalidResistance_init⟩
def e272 : PySem.W.Frag → Bool := fun K => PySem.W.keepIn K (.ref (A_f_InvalidResistance_init K))
def e273 : PySem.W.Frag → Bool := fun K => xcB K (A_X2 K) [.type "ValueError", .type "Exception", .type "BaseException", .type "object"] "ValueError.__new__"
def e274 : PySem.W.Frag → Bool := fun K => rowBF K [(A_X0 K), (A_X1 K), (A_X2 K), (A_X3 K), (A_X4 K), (A_X5 K), (A_X6 K), (A_X7 K), (A_X8 K), (A_X9 K), (A_X10 K), (A_X11 K), (A_X12 K), (A_X13 K), (A_X14 K), (A_X15 K), (A_X16 K), (A_X17 K)] 2
def e275 : PySem.W.Frag → Bool := fun K => decide (PySem.W.exmAny K (.ref (A_X2 K)) [.ref (A_X15 K), .ref (A_X16 K), .ref (A_X17 K)] = some true)
def e276 : PySem.W.Frag → Bool := fun K => decide (PySem.W.typeIn K (.ref (A_X2 K)) = some (.type "type"))
def e277 : PySem.W.Frag → Bool := fun K => decide (PySem.W.findIn K (.ref (A_X2 K)) "given" = some none)
def A_f_law_error : Ad := glA "_law_error"
def e278 : PySem.W.Frag → Bool := fun K => decide (PySem.W.nsIn K mainGlobals "_law_error" = some (some (.ref (A_f_law_error K))))
def e279 : PySem.W.Frag → Bool := fun K => codeB A_f_law_error "_law_error" K
def d52 : DnH := ⟨A_f_law_error, "_law_error", "_law_error", s_law_error⟩
def e280 : PySem.W.Frag → Bool := fun K => PySem.W.keepIn K (.ref (A_f_law_error K))
def A_f_law_told : Ad := glA "_law_told"
def e281 : PySem.W.Frag → Bool := fun K => decide (PySem.W.nsIn K mainGlobals "_law_told" = some (some (.ref (A_f_law_told K))))
def e282 : PySem.W.Frag → Bool := fun K => codeB A_f_law_told "_law_told" K
def d53 : DnH := ⟨A_f_law_told, "_law_told", "_law_told", s_law_told⟩
def e283 : PySem.W.Frag → Bool := fun K => PySem.W.keepIn K (.ref (A_f_law_told K))
def A_f_law_cell : Ad := glA "_law_cell"
def e284 : PySem.W.Frag → Bool := fun K => decide (PySem.W.nsIn K mainGlobals "_law_cell" = some (some (.ref (A_f_law_cell K))))
def e285 : PySem.W.Frag → Bool := fun K => codeB A_f_law_cell "_law_cell" K
def d54 : DnH := ⟨A_f_law_cell, "_law_cell", "_law_cell", s_law_cell⟩
def e286 : PySem.W.Frag → Bool := fun K => PySem.W.keepIn K (.ref (A_f_law_cell K))
def A_f_law_src : Ad := glA "_law_src"
def e287 : PySem.W.Frag → Bool := fun K => decide (PySem.W.nsIn K mainGlobals "_law_src" = some (some (.ref (A_f_law_src K))))
def e288 : PySem.W.Frag → Bool := fun K => codeB A_f_law_src "_law_src" K
def d55 : DnH := ⟨A_f_law_src, "_law_src", "_law_src", s_law_src⟩
def e289 : PySem.W.Frag → Bool := fun K => PySem.W.keepIn K (.ref (A_f_law_src K))
def A_f_law_pick : Ad := glA "_law_pick"
def e290 : PySem.W.Frag → Bool := fun K => decide (PySem.W.nsIn K mainGlobals "_law_pick" = some (some (.ref (A_f_law_pick K))))
def e291 : PySem.W.Frag → Bool := fun K => codeB A_f_law_pick "_law_pick" K
def d56 : DnH := ⟨A_f_law_pick, "_law_pick", "_law_pick", s_law_pick⟩
def e292 : PySem.W.Frag → Bool := fun K => PySem.W.keepIn K (.ref (A_f_law_pick K))
def A_f_law_lowest : Ad := glA "_law_lowest"
def e293 : PySem.W.Frag → Bool := fun K => decide (PySem.W.nsIn K mainGlobals "_law_lowest" = some (some (.ref (A_f_law_lowest K))))
def e294 : PySem.W.Frag → Bool := fun K => codeB A_f_law_lowest "_law_lowest" K
def d57 : DnH := ⟨A_f_law_lowest, "_law_lowest", "_law_lowest", s_law_lowest⟩
def e295 : PySem.W.Frag → Bool := fun K => PySem.W.keepIn K (.ref (A_f_law_lowest K))
def A_f_law_frac : Ad := glA "_law_frac"
def e296 : PySem.W.Frag → Bool := fun K => decide (PySem.W.nsIn K mainGlobals "_law_frac" = some (some (.ref (A_f_law_frac K))))
def e297 : PySem.W.Frag → Bool := fun K => codeB A_f_law_frac "_law_frac" K
def d58 : DnH := ⟨A_f_law_frac, "_law_frac", "_law_frac", s_law_frac⟩
def e298 : PySem.W.Frag → Bool := fun K => PySem.W.keepIn K (.ref (A_f_law_frac K))
def A_f_law_led : Ad := glA "_law_led"
def e299 : PySem.W.Frag → Bool := fun K => decide (PySem.W.nsIn K mainGlobals "_law_led" = some (some (.ref (A_f_law_led K))))
def e300 : PySem.W.Frag → Bool := fun K => codeB A_f_law_led "_law_led" K
def d59 : DnH := ⟨A_f_law_led, "_law_led", "_law_led", s_law_led⟩
def e301 : PySem.W.Frag → Bool := fun K => PySem.W.keepIn K (.ref (A_f_law_led K))
def A_f_law_is_load : Ad := glA "_law_is_load"
def e302 : PySem.W.Frag → Bool := fun K => decide (PySem.W.nsIn K mainGlobals "_law_is_load" = some (some (.ref (A_f_law_is_load K))))
def e303 : PySem.W.Frag → Bool := fun K => codeB A_f_law_is_load "_law_is_load" K
def d60 : DnH := ⟨A_f_law_is_load, "_law_is_load", "_law_is_load", s_law_is_load⟩
def e304 : PySem.W.Frag → Bool := fun K => PySem.W.keepIn K (.ref (A_f_law_is_load K))
def A_f_law_is_number : Ad := glA "_law_is_number"
def e305 : PySem.W.Frag → Bool := fun K => decide (PySem.W.nsIn K mainGlobals "_law_is_number" = some (some (.ref (A_f_law_is_number K))))
def e306 : PySem.W.Frag → Bool := fun K => codeB A_f_law_is_number "_law_is_number" K
def d61 : DnH := ⟨A_f_law_is_number, "_law_is_number", "_law_is_number", s_law_is_number⟩
def e307 : PySem.W.Frag → Bool := fun K => PySem.W.keepIn K (.ref (A_f_law_is_number K))
def A_f_law_anyrow : Ad := glA "_law_anyrow"
def e308 : PySem.W.Frag → Bool := fun K => decide (PySem.W.nsIn K mainGlobals "_law_anyrow" = some (some (.ref (A_f_law_anyrow K))))
def e309 : PySem.W.Frag → Bool := fun K => codeB A_f_law_anyrow "_law_anyrow" K
def d62 : DnH := ⟨A_f_law_anyrow, "_law_anyrow", "_law_anyrow", s_law_anyrow⟩
def e310 : PySem.W.Frag → Bool := fun K => PySem.W.keepIn K (.ref (A_f_law_anyrow K))
def A_f_law_anyload : Ad := glA "_law_anyload"
def e311 : PySem.W.Frag → Bool := fun K => decide (PySem.W.nsIn K mainGlobals "_law_anyload" = some (some (.ref (A_f_law_anyload K))))
def e312 : PySem.W.Frag → Bool := fun K => codeB A_f_law_anyload "_law_anyload" K
def d63 : DnH := ⟨A_f_law_anyload, "_law_anyload", "_law_anyload", s_law_anyload⟩
def e313 : PySem.W.Frag → Bool := fun K => PySem.W.keepIn K (.ref (A_f_law_anyload K))
def A_f_law_sign : Ad := glA "_law_sign"
def e314 : PySem.W.Frag → Bool := fun K => decide (PySem.W.nsIn K mainGlobals "_law_sign" = some (some (.ref (A_f_law_sign K))))
def e315 : PySem.W.Frag → Bool := fun K => codeB A_f_law_sign "_law_sign" K
def d64 : DnH := ⟨A_f_law_sign, "_law_sign", "_law_sign", s_law_sign⟩
def e316 : PySem.W.Frag → Bool := fun K => PySem.W.keepIn K (.ref (A_f_law_sign K))
def A_f_law_never : Ad := glA "_law_never"
def e317 : PySem.W.Frag → Bool := fun K => decide (PySem.W.nsIn K mainGlobals "_law_never" = some (some (.ref (A_f_law_never K))))
def e318 : PySem.W.Frag → Bool := fun K => codeB A_f_law_never "_law_never" K
def d65 : DnH := ⟨A_f_law_never, "_law_never", "_law_never", s_law_never⟩
def e319 : PySem.W.Frag → Bool := fun K => PySem.W.keepIn K (.ref (A_f_law_never K))
def A_f_law_isqrt : Ad := glA "_law_isqrt"
def e320 : PySem.W.Frag → Bool := fun K => decide (PySem.W.nsIn K mainGlobals "_law_isqrt" = some (some (.ref (A_f_law_isqrt K))))
def e321 : PySem.W.Frag → Bool := fun K => codeB A_f_law_isqrt "_law_isqrt" K
def d66 : DnH := ⟨A_f_law_isqrt, "_law_isqrt", "_law_isqrt", s_law_isqrt⟩
def e322 : PySem.W.Frag → Bool := fun K => PySem.W.keepIn K (.ref (A_f_law_isqrt K))
def A_f_law_limit : Ad := glA "_law_limit"
def e323 : PySem.W.Frag → Bool := fun K => decide (PySem.W.nsIn K mainGlobals "_law_limit" = some (some (.ref (A_f_law_limit K))))
def e324 : PySem.W.Frag → Bool := fun K => codeB A_f_law_limit "_law_limit" K
def d67 : DnH := ⟨A_f_law_limit, "_law_limit", "_law_limit", s_law_limit⟩
def e325 : PySem.W.Frag → Bool := fun K => PySem.W.keepIn K (.ref (A_f_law_limit K))
def A_f_law_even : Ad := glA "_law_even"
def e326 : PySem.W.Frag → Bool := fun K => decide (PySem.W.nsIn K mainGlobals "_law_even" = some (some (.ref (A_f_law_even K))))
def e327 : PySem.W.Frag → Bool := fun K => codeB A_f_law_even "_law_even" K
def d68 : DnH := ⟨A_f_law_even, "_law_even", "_law_even", s_law_even⟩
def e328 : PySem.W.Frag → Bool := fun K => PySem.W.keepIn K (.ref (A_f_law_even K))
def A_f_law_some_row : Ad := glA "_law_some_row"
def e329 : PySem.W.Frag → Bool := fun K => decide (PySem.W.nsIn K mainGlobals "_law_some_row" = some (some (.ref (A_f_law_some_row K))))
def e330 : PySem.W.Frag → Bool := fun K => codeB A_f_law_some_row "_law_some_row" K
def d69 : DnH := ⟨A_f_law_some_row, "_law_some_row", "_law_some_row", s_law_some_row⟩
def e331 : PySem.W.Frag → Bool := fun K => PySem.W.keepIn K (.ref (A_f_law_some_row K))
def A_f_law_near : Ad := glA "_law_near"
def e332 : PySem.W.Frag → Bool := fun K => decide (PySem.W.nsIn K mainGlobals "_law_near" = some (some (.ref (A_f_law_near K))))
def e333 : PySem.W.Frag → Bool := fun K => codeB A_f_law_near "_law_near" K
def d70 : DnH := ⟨A_f_law_near, "_law_near", "_law_near", s_law_near⟩
def e334 : PySem.W.Frag → Bool := fun K => PySem.W.keepIn K (.ref (A_f_law_near K))
def A_f_law_crossing : Ad := glA "_law_crossing"
def e335 : PySem.W.Frag → Bool := fun K => decide (PySem.W.nsIn K mainGlobals "_law_crossing" = some (some (.ref (A_f_law_crossing K))))
def e336 : PySem.W.Frag → Bool := fun K => codeB A_f_law_crossing "_law_crossing" K
def d71 : DnH := ⟨A_f_law_crossing, "_law_crossing", "_law_crossing", s_law_crossing⟩
def e337 : PySem.W.Frag → Bool := fun K => PySem.W.keepIn K (.ref (A_f_law_crossing K))
def A_f_law_text : Ad := glA "_law_text"
def e338 : PySem.W.Frag → Bool := fun K => decide (PySem.W.nsIn K mainGlobals "_law_text" = some (some (.ref (A_f_law_text K))))
def e339 : PySem.W.Frag → Bool := fun K => codeB A_f_law_text "_law_text" K
def d72 : DnH := ⟨A_f_law_text, "_law_text", "_law_text", s_law_text⟩
def e340 : PySem.W.Frag → Bool := fun K => PySem.W.keepIn K (.ref (A_f_law_text K))
def A_f_law_pat : Ad := glA "_law_pat"
def e341 : PySem.W.Frag → Bool := fun K => decide (PySem.W.nsIn K mainGlobals "_law_pat" = some (some (.ref (A_f_law_pat K))))
def e342 : PySem.W.Frag → Bool := fun K => codeB A_f_law_pat "_law_pat" K
def d73 : DnH := ⟨A_f_law_pat, "_law_pat", "_law_pat", s_law_pat⟩
def e343 : PySem.W.Frag → Bool := fun K => PySem.W.keepIn K (.ref (A_f_law_pat K))
def A_f_law_never_right : Ad := glA "_law_never_right"
def e344 : PySem.W.Frag → Bool := fun K => decide (PySem.W.nsIn K mainGlobals "_law_never_right" = some (some (.ref (A_f_law_never_right K))))
def e345 : PySem.W.Frag → Bool := fun K => codeB A_f_law_never_right "_law_never_right" K
def d74 : DnH := ⟨A_f_law_never_right, "_law_never_right", "_law_never_right", s_law_never_right⟩
def e346 : PySem.W.Frag → Bool := fun K => PySem.W.keepIn K (.ref (A_f_law_never_right K))
def A_f_law_limit_right : Ad := glA "_law_limit_right"
def e347 : PySem.W.Frag → Bool := fun K => decide (PySem.W.nsIn K mainGlobals "_law_limit_right" = some (some (.ref (A_f_law_limit_right K))))
def e348 : PySem.W.Frag → Bool := fun K => codeB A_f_law_limit_right "_law_limit_right" K
def d75 : DnH := ⟨A_f_law_limit_right, "_law_limit_right", "_law_limit_right", s_law_limit_right⟩
def e349 : PySem.W.Frag → Bool := fun K => PySem.W.keepIn K (.ref (A_f_law_limit_right K))
def A_f_law_refused_right : Ad := glA "_law_refused_right"
def e350 : PySem.W.Frag → Bool := fun K => decide (PySem.W.nsIn K mainGlobals "_law_refused_right" = some (some (.ref (A_f_law_refused_right K))))
def e351 : PySem.W.Frag → Bool := fun K => codeB A_f_law_refused_right "_law_refused_right" K
def d76 : DnH := ⟨A_f_law_refused_right, "_law_refused_right", "_law_refused_right", s_law_refused_right⟩
def e352 : PySem.W.Frag → Bool := fun K => PySem.W.keepIn K (.ref (A_f_law_refused_right K))
def A_cA_law_refused_right : Ad := cdA A_f_law_refused_right
def A_PA_law_refused_right : Ad := tbA (cdA A_f_law_refused_right)
def A_f_law_right : Ad := glA "_law_right"
def e353 : PySem.W.Frag → Bool := fun K => decide (PySem.W.nsIn K mainGlobals "_law_right" = some (some (.ref (A_f_law_right K))))
def e354 : PySem.W.Frag → Bool := fun K => codeB A_f_law_right "_law_right" K
def d77 : DnH := ⟨A_f_law_right, "_law_right", "_law_right", s_law_right⟩
def e355 : PySem.W.Frag → Bool := fun K => PySem.W.keepIn K (.ref (A_f_law_right K))
def A_f_law : Ad := glA "law"
def e356 : PySem.W.Frag → Bool := fun K => decide (PySem.W.nsIn K mainGlobals "law" = some (some (.ref (A_f_law K))))
def e357 : PySem.W.Frag → Bool := fun K => codeB A_f_law "law" K
def d78 : DnH := ⟨A_f_law, "law", "law", s_law⟩
def e358 : PySem.W.Frag → Bool := fun K => PySem.W.keepIn K (.ref (A_f_law K))
def A_cA_law : Ad := cdA A_f_law
def A_PA_law : Ad := tbA (cdA A_f_law)
def e359 : PySem.W.Frag → Bool := fun K => decide ((A_PA_law_refused_right K) ≠ (A_PA_law K))
def e360 : PySem.W.Frag → Bool := fun K => decide ((A_PA_law K) ≠ (A_PA_law_refused_right K))
def exA0 : List (PySem.W.Frag → Bool) := [e0, e1, e2, e3, e4, e5, e6, e7, e8, e9, e10, e11, e12, e13, e14, e15, e16, e17, e18, e19, e20, e21, e22, e23, e24, e25, e26, e27, e28, e29]
def exA1 : List (PySem.W.Frag → Bool) := [e30, e31, e32, e33, e34, e35, e36, e37, e38, e39, e40, e41, e42, e43, e44, e45, e46, e47, e48, e49, e50, e51, e52, e53, e54, e55, e56, e57, e58, e59]
def exA2 : List (PySem.W.Frag → Bool) := [e60, e61, e62, e63, e64, e65, e66, e67, e68, e69, e70, e71, e72, e73, e74, e75, e76, e77, e78, e79, e80, e81, e82, e83, e84, e85, e86, e87, e88, e89]
def exA3 : List (PySem.W.Frag → Bool) := [e90, e91, e92, e93, e94, e95, e96, e97, e98, e99, e100, e101, e102, e103, e104, e105, e106, e107, e108, e109, e110, e111, e112, e113, e114, e115, e116, e117, e118, e119]
def exA4 : List (PySem.W.Frag → Bool) := [e120, e121, e122, e123, e124, e125, e126, e127, e128, e129, e130, e131, e132, e133, e134, e135, e136, e137, e138, e139, e140, e141, e142, e143, e144, e145, e146, e147, e148, e149]
def exA5 : List (PySem.W.Frag → Bool) := [e150, e151, e152, e153, e154, e155, e156, e157, e158, e159, e160, e161, e162, e163, e164, e165, e166, e167, e168, e169, e170, e171, e172, e173, e174, e175, e176, e177, e178, e179]
def exA : List (PySem.W.Frag → Bool) := exA0 ++ (exA1 ++ (exA2 ++ (exA3 ++ (exA4 ++ (exA5)))))
def exB0 : List (PySem.W.Frag → Bool) := [e180, e181, e182, e183, e184, e185, e186, e187, e188, e189, e190, e191, e192, e193, e194, e195, e196, e197, e198, e199, e200, e201, e202, e203, e204, e205, e206, e207, e208, e209]
def exB1 : List (PySem.W.Frag → Bool) := [e210, e211, e212, e213, e214, e215, e216, e217, e218, e219, e220, e221, e222, e223, e224, e225, e226, e227, e228, e229, e230, e231, e232, e233, e234, e235, e236, e237, e238, e239]
def exB2 : List (PySem.W.Frag → Bool) := [e240, e241, e242, e243, e244, e245, e246, e247, e248, e249, e250, e251, e252, e253, e254, e255, e256, e257, e258, e259, e260, e261, e262, e263, e264, e265, e266, e267, e268, e269]
def exB3 : List (PySem.W.Frag → Bool) := [e270, e271, e272, e273, e274, e275, e276, e277, e278, e279, e280, e281, e282, e283, e284, e285, e286, e287, e288, e289, e290, e291, e292, e293, e294, e295, e296, e297, e298, e299]
def exB4 : List (PySem.W.Frag → Bool) := [e300, e301, e302, e303, e304, e305, e306, e307, e308, e309, e310, e311, e312, e313, e314, e315, e316, e317, e318, e319, e320, e321, e322, e323, e324, e325, e326, e327, e328, e329]
def exB5 : List (PySem.W.Frag → Bool) := [e330, e331, e332, e333, e334, e335, e336, e337, e338, e339, e340, e341, e342, e343, e344, e345, e346, e347, e348, e349, e350, e351, e352, e353, e354, e355, e356, e357, e358, e359]
def exB6 : List (PySem.W.Frag → Bool) := [e360]
def exB : List (PySem.W.Frag → Bool) := exB0 ++ (exB1 ++ (exB2 ++ (exB3 ++ (exB4 ++ (exB5 ++ (exB6))))))
def exL : List (PySem.W.Frag → Bool) := exA ++ exB
def fnL0 : List DnH := [d0, d1, d2, d3, d4, d5, d6, d7, d8, d9, d10, d11, d12, d13, d14, d15, d16, d17, d18, d19, d20, d21, d22, d23, d24, d25, d26, d27, d28, d29]
def fnL1 : List DnH := [d30, d31, d32, d33, d34, d35, d36, d37, d38, d39, d40, d41, d42, d43, d44, d45, d46, d47, d48, d49, d50, d51, d52, d53, d54, d55, d56, d57, d58, d59]
def fnL2 : List DnH := [d60, d61, d62, d63, d64, d65, d66, d67, d68, d69, d70, d71, d72, d73, d74, d75, d76, d77, d78]
def fnL : List DnH := fnL0 ++ (fnL1 ++ (fnL2))
def tfL0 : List Ad := [A_f_law_refused_right, A_f_law]
def tfL : List Ad := tfL0
def tsL0 : List Tz := [(A_aCh, [("value" : Str), ("most" : Str), ("least" : Str), ("apart" : Str), ("never" : Str), ("more" : Str), ("limit" : Str), ("greatest" : Str), ("least of all" : Str)])]
def tsL : List Tz := tsL0
def loL0 : List Str := ["_wall", "MOST_OHMS", "MOST_PIECES", "MOST_JOINED", "MOST_KINDS", "MOST_SECTIONS", "GREATEST", "OPEN", "__name__", "is_integer", "is_integer_within", "is_count", "is_pair_of_integers", "is_resistance", "pair_of", "common_divisor", "lowest_terms", "lowest_pair", "pair_order", "fraction_text", "sign", "square_root", "WrongValue", "NotAPattern", "NotARun", "InvalidResistance", "InvalidCount", "InvalidNumber", "InvalidText", "InvalidName"]
def loL1 : List Str := ["InvalidClaim", "InvalidIndex", "InvalidPieces", "InvalidDeeds", "WrongName", "UnknownName", "InUse", "NoAnswer", "TooMany", "Broken", "NoLimit", "NothingToUndo", "WORDS", "JoinedRow", "Pattern", "checked_row", "is_piece", "matrix_and_scale", "shown_before", "row_text", "piece_text", "piece_with_text", "check_pattern", "check_resistance", "GREATEST_PART", "Exact", "under_root", "simplest_equation", "equation_of_fraction", "beside_fraction"]
def loL2 : List Str := ["sign_along_line", "limit_beside", "with_commas", "ladder_limit", "difference", "times", "sign_at", "sign_far_out", "sign_from", "sign_towards", "never_below", "more_load", "certify_never", "certify_limit", "is_number", "is_row", "are_rows", "is_empty", "is_order", "matrix_of", "ladder_shows", "check_value", "check_bound", "check_most", "check_least", "check_apart", "check_never", "check_more", "check_limit", "check_box"]
def loL3 : List Str := ["best_shown", "check_greatest", "check_least_of_all", "CHECKS", "accepts", "_law_cell", "_law_src", "_law_pick", "_law_lowest", "_law_frac", "_law_sign", "_law_led", "_law_anyrow", "_law_even", "_law_some_row", "_law_near", "_law_text", "_law_pat", "_law_anyload", "_law_is_load", "_law_is_number", "_law_never", "_law_isqrt", "_law_limit", "_law_error", "_law_told", "_law_crossing", "_law_never_right", "_law_limit_right", "_law_refused_right"]
def loL4 : List Str := ["_law_right"]
def loL : List Str := loL0 ++ (loL1 ++ (loL2 ++ (loL3 ++ (loL4))))
abbrev rwH : PySem.W.OpenRow := PySem.W.OpenLaw.row PySem.Challenge.rw_rungladders_k78_patterns_and_limits_cert
def asL0 : List Addr := [2, 3, 22, 29, 36, 50, 57, 64, 71, 78, 85, 92, 106, 113, 130, 150, 169, 188, 207, 245, 264, 283, 302, 340, 359, 379, 398, 417, 437, 456]
def asL1 : List Addr := [468, 480, 483, 500, 592, 603, 610, 617, 624, 636, 643, 650, 657, 732, 743, 750, 757, 778, 790, 797, 804, 811, 818, 825, 832, 839, 846, 853, 860, 867]
def asL2 : List Addr := [872, 884, 896, 943, 950, 955, 982, 989, 996, 1003, 1010, 1017, 1024, 1031, 1038, 1043, 1050, 1057, 1064, 1069, 1076, 1083, 1088, 1093, 1100, 1107, 1114, 1121, 1128, 1135]
def asL3 : List Addr := [1142, 1149, 1156, 1163, 1168, 28, 35, 49, 56, 63, 70, 77, 84, 91, 105, 112, 129, 149, 187, 499, 591, 602, 609, 616, 623, 635, 642, 649, 656, 731]
def asL4 : List Addr := [742, 749, 756, 777, 789, 796, 803, 810, 817, 824, 831, 838, 845, 852, 859, 866, 871, 883, 895, 942, 949, 954, 988, 995, 1002, 1009, 1016, 1023, 1030, 1037]
def asL5 : List Addr := [1042, 1049, 1056, 1063, 1068, 1075, 1082, 1087, 1092, 1099, 1106, 1113, 1120, 1127, 1134, 1141, 1148, 1155, 1162, 1167, 127, 147, 185, 497, 516, 531, 588, 671, 687, 715]
def asL6 : List Addr := [126, 146, 184, 496, 515, 530, 586, 670, 686, 714, 529, 585, 685]
def asL : List Addr := asL0 ++ (asL1 ++ (asL2 ++ (asL3 ++ (asL4 ++ (asL5 ++ (asL6))))))
abbrev hkH : PySem.W.Hook := hookW asL fnL tfL exL tsL
def obH (s : PySem.W.SharedT) : AlW := obsW asL fnL tfL exL tsL (HandSHeadRun.getT s)
theorem obH_eq (s : PySem.W.SharedT) : obH s = hkH.obs s.abs := obsW_eq (HandSHeadRun.getT_eq s)
abbrev qH : Program := PySem.W.view rwH.prog [131]
abbrev rowS : String := "special-get-raises"
noncomputable abbrev GH (w : World) (os : OsState) := HandSHeadRun.endF (HandSHeadRun.stepQ (HandSHeadRun.denQ HandSHeadRun.tabQ) rwH.prog w) 12000 rwH.prog w os
def obA (s : PySem.W.SharedT) : Bool := exA.all fun e => e (frT (HandSHeadRun.getT s) asL)
def obB (s : PySem.W.SharedT) : Bool × Bool := (exB.all fun e => e (frT (HandSHeadRun.getT s) asL), tabsZ (HandSHeadRun.getT s) tfL (frT (HandSHeadRun.getT s) asL))
theorem ob_two (s : PySem.W.SharedT) : (obH s).1.2 = (obA s && (obB s).1, (obB s).2) := by
  have e : (exA ++ exB).all (fun e => e (frT (HandSHeadRun.getT s) asL)) = (exA.all (fun e => e (frT (HandSHeadRun.getT s) asL)) && exB.all fun e => e (frT (HandSHeadRun.getT s) asL)) := List.all_append
  exact Prod.ext e rfl
abbrev PA (w : World) : Prop := ∀ os : OsState, (GH w os).map (fun s => (HandSHeadRun.looksF rwH.prog (PySem.W.boot_heap w.params) s.abs, (obH s).2)) = some (true, (valW fnL tsL w).2)
abbrev PB (w : World) : Prop := ∀ os : OsState, (GH w os).map (fun s => HandSHeadRun.seenQ qH loL (PySem.importedModules rwH.prog.main.body) (fun s => PySem.W.xlAt qH [] s && PySem.W.recOk rwH.toRowW.records s) s.abs) = some (PySem.W.openGood qH loL)
abbrev PC (w : World) : Prop := ∀ os : OsState, (GH w os).map (fun s => (obH s).1.1) = some (valZ fnL).1
abbrev PD (w : World) : Prop := ∀ os : OsState, (GH w os).map obA = some true
abbrev PE (w : World) : Prop := ∀ os : OsState, (GH w os).map obB = some (true, true)
theorem pAF (w : World) : PA (w.withFollow rowS false) := by
  intro os
  kernel_rfl
theorem pAT (w : World) : PA (w.withFollow rowS true) := by
  intro os
  kernel_rfl
theorem pBF (w : World) : PB (w.withFollow rowS false) := by
  intro os
  kernel_rfl
theorem pBT (w : World) : PB (w.withFollow rowS true) := by
  intro os
  kernel_rfl
theorem pCF (w : World) : PC (w.withFollow rowS false) := by
  intro os
  kernel_rfl
theorem pCT (w : World) : PC (w.withFollow rowS true) := by
  intro os
  kernel_rfl
theorem pDF (w : World) : PD (w.withFollow rowS false) := by
  intro os
  kernel_rfl
theorem pDT (w : World) : PD (w.withFollow rowS true) := by
  intro os
  kernel_rfl
theorem pEF (w : World) : PE (w.withFollow rowS false) := by
  intro os
  kernel_rfl
theorem pET (w : World) : PE (w.withFollow rowS true) := by
  intro os
  kernel_rfl
theorem follow_all {p : World → Prop} (f : ∀ w : World, p (w.withFollow rowS false)) (t : ∀ w : World, p (w.withFollow rowS true)) (w : World) : p w := by
  have e := World.withFollow_self w rowS
  cases hb : w.params.followText rowS with
  | false =>
    rw [hb] at e
    rw [← e]
    exact f w
  | true =>
    rw [hb] at e
    rw [← e]
    exact t w
theorem runH (w : World) : HandSHeadRun.RunEq rwH qH hkH obH 12000 loL w := by
  intro os
  have hA := follow_all (p := PA) pAF pAT w os
  have hB := follow_all (p := PB) pBF pBT w os
  have hC := follow_all (p := PC) pCF pCT w os
  have hD := follow_all (p := PD) pDF pDT w os
  have hE := follow_all (p := PE) pEF pET w os
  show (GH w os).map _ = _
  generalize GH w os = g at hA hB hC hD hE ⊢
  cases g with
  | none => cases hA
  | some s =>
    have e0 := Prod.mk.inj (Option.some.inj hA)
    have e1 := Option.some.inj hB
    have e2 := Option.some.inj hC
    have e3 := Option.some.inj hD
    have e4 := Option.some.inj hE
    have e5 := ob_two s
    rw [e3, e4] at e5
    show some (_, _, obH s) = some (_, _, valW fnL tsL w)
    refine congrArg some (Prod.ext e0.1 (Prod.ext e1 (Prod.ext (Prod.ext e2 e5) e0.2)))
theorem factsH {w : World} {K : PySem.W.Frag} {h : Heap} {mg : Str → Option Value} {fa : Addr} (X : K.In h) (G : h.Ns mainGlobals mg) (hmg : mg "law" = some (.ref fa)) (cw : SaysW fnL tfL exL tsL w h K) : LawT PySem.Challenge.rw_rungladders_k78_patterns_and_limits_cert w K 14 63 "_law_script" mg fa h := by
  have c := cw.z
  obtain ⟨tG, aG⟩ := intB_ok (x := "GREATEST") (i := 1000000000000) (c.fact 0 (f := e0) rfl)
  obtain ⟨t1, aOh⟩ := intB_ok (x := "MOST_OHMS") (i := 12) (c.fact 1 (f := e1) rfl)
  obtain ⟨t3, aJo⟩ := intB_ok (x := "MOST_JOINED") (i := 8) (c.fact 2 (f := e2) rfl)
  obtain ⟨tC, aMS⟩ := intB_ok (x := "MOST_SECTIONS") (i := 100) (c.fact 3 (f := e3) rfl)
  obtain ⟨tK, aKi⟩ := intB_ok (x := "MOST_KINDS") (i := 4) (c.fact 4 (f := e4) rfl)
  have aOp : PySem.W.nsIn K mainGlobals "OPEN" = some (some (.ref (A_aO K))) := of_decide_eq_true (c.fact 5 (f := e5) rfl)
  obtain ⟨od_aO, aO_k0, aO_k1, nn_aO, sl_aO, laOp⟩ := tup2i_ok (a := A_aO) (i := 1) (j := 0) (c.fact 6 (f := e6) rfl)
  have aWo : PySem.W.nsIn K mainGlobals "WORDS" = some (some (.ref (A_aW K))) := of_decide_eq_true (c.fact 7 (f := e7) rfl)
  obtain ⟨od_aW, aW_k0, aW_k1, nn_aW, sl_aW, laWo⟩ := tup2s_ok (a := A_aW) (i := (Str.ofString "rail")) (j := (Str.ofString "rung")) (c.fact 8 (f := e8) rfl)
  have aChk : PySem.W.nsIn K mainGlobals "CHECKS" = some (some (.ref (A_aCh K))) := of_decide_eq_true (c.fact 9 (f := e9) rfl)
  have kr_chk := cw.dic 0 (t := (A_aCh, [("value" : Str), ("most" : Str), ("least" : Str), ("apart" : Str), ("never" : Str), ("more" : Str), ("limit" : Str), ("greatest" : Str), ("least of all" : Str)])) rfl
  have z_len : PySem.W.nsIn K mainGlobals "len" = some none := of_decide_eq_true (c.fact 10 (f := e10) rfl)
  have z_abs : PySem.W.nsIn K mainGlobals "abs" = some none := of_decide_eq_true (c.fact 11 (f := e11) rfl)
  have z_int : PySem.W.nsIn K mainGlobals "int" = some none := of_decide_eq_true (c.fact 12 (f := e12) rfl)
  have z_bool : PySem.W.nsIn K mainGlobals "bool" = some none := of_decide_eq_true (c.fact 13 (f := e13) rfl)
  have z_tuple : PySem.W.nsIn K mainGlobals "tuple" = some none := of_decide_eq_true (c.fact 14 (f := e14) rfl)
  have z_isinstance : PySem.W.nsIn K mainGlobals "isinstance" = some none := of_decide_eq_true (c.fact 15 (f := e15) rfl)
  have z_divmod : PySem.W.nsIn K mainGlobals "divmod" = some none := of_decide_eq_true (c.fact 16 (f := e16) rfl)
  have z_max : PySem.W.nsIn K mainGlobals "max" = some none := of_decide_eq_true (c.fact 17 (f := e17) rfl)
  have z_min : PySem.W.nsIn K mainGlobals "min" = some none := of_decide_eq_true (c.fact 18 (f := e18) rfl)
  have z_range : PySem.W.nsIn K mainGlobals "range" = some none := of_decide_eq_true (c.fact 19 (f := e19) rfl)
  have z_all : PySem.W.nsIn K mainGlobals "all" = some none := of_decide_eq_true (c.fact 20 (f := e20) rfl)
  have z_repr : PySem.W.nsIn K mainGlobals "repr" = some none := of_decide_eq_true (c.fact 21 (f := e21) rfl)
  have z_str : PySem.W.nsIn K mainGlobals "str" = some none := of_decide_eq_true (c.fact 22 (f := e22) rfl)
  have z_enumerate : PySem.W.nsIn K mainGlobals "enumerate" = some none := of_decide_eq_true (c.fact 23 (f := e23) rfl)
  have z_any : PySem.W.nsIn K mainGlobals "any" = some none := of_decide_eq_true (c.fact 24 (f := e24) rfl)
  have z_list : PySem.W.nsIn K mainGlobals "list" = some none := of_decide_eq_true (c.fact 25 (f := e25) rfl)
  obtain ⟨tP, aGP⟩ := intB_ok (x := "GREATEST_PART") (i := 10000000000000000000000000000000000000000) (c.fact 26 (f := e26) rfl)
  have aCe : PySem.W.nsIn K mainGlobals "Exact" = some (some (.ref (A_Ce K))) := of_decide_eq_true (c.fact 27 (f := e27) rfl)
  have pgCe : PySem.W.plainGet K (A_Ce K) Str.empty = true := (c.fact 28 (f := e28) rfl)
  have hdCe : PySem.W.hasDictIn K (A_Ce K) = true := (c.fact 29 (f := e29) rfl)
  have poCe : PySem.W.plainOver K (A_Ce K) = true := (c.fact 30 (f := e30) rfl)
  have saCe : PySem.W.findIn K (.ref (A_Ce K)) "__setattr__" = some (some (.builtin "object.__setattr__")) := of_decide_eq_true (c.fact 31 (f := e31) rfl)
  have mkCe : PySem.W.makesIn K (A_Ce K) = true := (c.fact 32 (f := e32) rfl)
  have kcCe : PySem.W.keepIn K (.ref (A_Ce K)) = true := (c.fact 33 (f := e33) rfl)
  have nCe_parts : PySem.W.findIn K (.ref (A_Ce K)) "parts" = some none := of_decide_eq_true (c.fact 34 (f := e34) rfl)
  have kt_E : PySem.W.kitOne K (.type "tuple") (.ref (A_Ce K)) = some false := of_decide_eq_true (c.fact 35 (f := e35) rfl)
  have nf_E : PySem.W.notFirst K (A_Ce K) (.type "tuple") = true := (c.fact 36 (f := e36) rfl)
  have a_is_integer : PySem.W.nsIn K mainGlobals "is_integer" = some (some (.ref (A_f_is_integer K))) := of_decide_eq_true (c.fact 37 (f := e37) rfl)
  obtain ⟨oc_is_integer, od_is_integer, sl_is_integer, kV_is_integer, dc_is_integer, pm_is_integer, an_is_integer, cd_is_integer, ct_is_integer, l_is_integer, c_is_integer⟩ := fnV_ok (f := A_f_is_integer) (n := "is_integer") (q := "is_integer") (st := s_is_integer) (c.defn 0 (d := d0) rfl) (c.fact 38 (f := e38) rfl)
  have k_is_integer : PySem.W.keepIn K (.ref (A_f_is_integer K)) = true := (c.fact 39 (f := e39) rfl)
  have a_is_integer_within : PySem.W.nsIn K mainGlobals "is_integer_within" = some (some (.ref (A_f_is_integer_within K))) := of_decide_eq_true (c.fact 40 (f := e40) rfl)
  obtain ⟨oc_is_integer_within, od_is_integer_within, sl_is_integer_within, kV_is_integer_within, dc_is_integer_within, pm_is_integer_within, an_is_integer_within, cd_is_integer_within, ct_is_integer_within, l_is_integer_within, c_is_integer_within⟩ := fnV_ok (f := A_f_is_integer_within) (n := "is_integer_within") (q := "is_integer_within") (st := s_is_integer_within) (c.defn 1 (d := d1) rfl) (c.fact 41 (f := e41) rfl)
  have k_is_integer_within : PySem.W.keepIn K (.ref (A_f_is_integer_within K)) = true := (c.fact 42 (f := e42) rfl)
  have a_is_pair_of_integers : PySem.W.nsIn K mainGlobals "is_pair_of_integers" = some (some (.ref (A_f_is_pair_of_integers K))) := of_decide_eq_true (c.fact 43 (f := e43) rfl)
  obtain ⟨oc_is_pair_of_integers, od_is_pair_of_integers, sl_is_pair_of_integers, kV_is_pair_of_integers, dc_is_pair_of_integers, pm_is_pair_of_integers, an_is_pair_of_integers, cd_is_pair_of_integers, ct_is_pair_of_integers, l_is_pair_of_integers, c_is_pair_of_integers⟩ := fnV_ok (f := A_f_is_pair_of_integers) (n := "is_pair_of_integers") (q := "is_pair_of_integers") (st := s_is_pair_of_integers) (c.defn 2 (d := d2) rfl) (c.fact 44 (f := e44) rfl)
  have k_is_pair_of_integers : PySem.W.keepIn K (.ref (A_f_is_pair_of_integers K)) = true := (c.fact 45 (f := e45) rfl)
  have a_is_resistance : PySem.W.nsIn K mainGlobals "is_resistance" = some (some (.ref (A_f_is_resistance K))) := of_decide_eq_true (c.fact 46 (f := e46) rfl)
  obtain ⟨oc_is_resistance, od_is_resistance, sl_is_resistance, kV_is_resistance, dc_is_resistance, pm_is_resistance, an_is_resistance, cd_is_resistance, ct_is_resistance, l_is_resistance, c_is_resistance⟩ := fnV_ok (f := A_f_is_resistance) (n := "is_resistance") (q := "is_resistance") (st := s_is_resistance) (c.defn 3 (d := d3) rfl) (c.fact 47 (f := e47) rfl)
  have k_is_resistance : PySem.W.keepIn K (.ref (A_f_is_resistance K)) = true := (c.fact 48 (f := e48) rfl)
  have a_pair_of : PySem.W.nsIn K mainGlobals "pair_of" = some (some (.ref (A_f_pair_of K))) := of_decide_eq_true (c.fact 49 (f := e49) rfl)
  obtain ⟨oc_pair_of, od_pair_of, sl_pair_of, kV_pair_of, dc_pair_of, pm_pair_of, an_pair_of, cd_pair_of, ct_pair_of, l_pair_of, c_pair_of⟩ := fnV_ok (f := A_f_pair_of) (n := "pair_of") (q := "pair_of") (st := s_pair_of) (c.defn 4 (d := d4) rfl) (c.fact 50 (f := e50) rfl)
  have k_pair_of : PySem.W.keepIn K (.ref (A_f_pair_of K)) = true := (c.fact 51 (f := e51) rfl)
  have a_sign : PySem.W.nsIn K mainGlobals "sign" = some (some (.ref (A_f_sign K))) := of_decide_eq_true (c.fact 52 (f := e52) rfl)
  obtain ⟨oc_sign, od_sign, sl_sign, kV_sign, dc_sign, pm_sign, an_sign, cd_sign, ct_sign, l_sign, c_sign⟩ := fnV_ok (f := A_f_sign) (n := "sign") (q := "sign") (st := s_sign) (c.defn 5 (d := d5) rfl) (c.fact 53 (f := e53) rfl)
  have k_sign : PySem.W.keepIn K (.ref (A_f_sign K)) = true := (c.fact 54 (f := e54) rfl)
  have a_pair_order : PySem.W.nsIn K mainGlobals "pair_order" = some (some (.ref (A_f_pair_order K))) := of_decide_eq_true (c.fact 55 (f := e55) rfl)
  obtain ⟨oc_pair_order, od_pair_order, sl_pair_order, kV_pair_order, dc_pair_order, pm_pair_order, an_pair_order, cd_pair_order, ct_pair_order, l_pair_order, c_pair_order⟩ := fnV_ok (f := A_f_pair_order) (n := "pair_order") (q := "pair_order") (st := s_pair_order) (c.defn 6 (d := d6) rfl) (c.fact 56 (f := e56) rfl)
  have k_pair_order : PySem.W.keepIn K (.ref (A_f_pair_order K)) = true := (c.fact 57 (f := e57) rfl)
  have a_is_number : PySem.W.nsIn K mainGlobals "is_number" = some (some (.ref (A_f_is_number K))) := of_decide_eq_true (c.fact 58 (f := e58) rfl)
  obtain ⟨oc_is_number, od_is_number, sl_is_number, kV_is_number, dc_is_number, pm_is_number, an_is_number, cd_is_number, ct_is_number, l_is_number, c_is_number⟩ := fnV_ok (f := A_f_is_number) (n := "is_number") (q := "is_number") (st := s_is_number) (c.defn 7 (d := d7) rfl) (c.fact 59 (f := e59) rfl)
  have k_is_number : PySem.W.keepIn K (.ref (A_f_is_number K)) = true := (c.fact 60 (f := e60) rfl)
  have a_is_piece : PySem.W.nsIn K mainGlobals "is_piece" = some (some (.ref (A_f_is_piece K))) := of_decide_eq_true (c.fact 61 (f := e61) rfl)
  obtain ⟨oc_is_piece, od_is_piece, sl_is_piece, kV_is_piece, dc_is_piece, pm_is_piece, an_is_piece, cd_is_piece, ct_is_piece, l_is_piece, c_is_piece⟩ := fnV_ok (f := A_f_is_piece) (n := "is_piece") (q := "is_piece") (st := s_is_piece) (c.defn 8 (d := d8) rfl) (c.fact 62 (f := e62) rfl)
  have k_is_piece : PySem.W.keepIn K (.ref (A_f_is_piece K)) = true := (c.fact 63 (f := e63) rfl)
  have a_is_row : PySem.W.nsIn K mainGlobals "is_row" = some (some (.ref (A_f_is_row K))) := of_decide_eq_true (c.fact 64 (f := e64) rfl)
  obtain ⟨oc_is_row, od_is_row, sl_is_row, kV_is_row, dc_is_row, pm_is_row, an_is_row, cd_is_row, ct_is_row, l_is_row, c_is_row⟩ := fnV_ok (f := A_f_is_row) (n := "is_row") (q := "is_row") (st := s_is_row) (c.defn 9 (d := d9) rfl) (c.fact 65 (f := e65) rfl)
  have k_is_row : PySem.W.keepIn K (.ref (A_f_is_row K)) = true := (c.fact 66 (f := e66) rfl)
  have a_is_empty : PySem.W.nsIn K mainGlobals "is_empty" = some (some (.ref (A_f_is_empty K))) := of_decide_eq_true (c.fact 67 (f := e67) rfl)
  obtain ⟨oc_is_empty, od_is_empty, sl_is_empty, kV_is_empty, dc_is_empty, pm_is_empty, an_is_empty, cd_is_empty, ct_is_empty, l_is_empty, c_is_empty⟩ := fnV_ok (f := A_f_is_empty) (n := "is_empty") (q := "is_empty") (st := s_is_empty) (c.defn 10 (d := d10) rfl) (c.fact 68 (f := e68) rfl)
  have k_is_empty : PySem.W.keepIn K (.ref (A_f_is_empty K)) = true := (c.fact 69 (f := e69) rfl)
  have a_matrix_and_scale : PySem.W.nsIn K mainGlobals "matrix_and_scale" = some (some (.ref (A_f_matrix_and_scale K))) := of_decide_eq_true (c.fact 70 (f := e70) rfl)
  obtain ⟨oc_matrix_and_scale, od_matrix_and_scale, sl_matrix_and_scale, kV_matrix_and_scale, dc_matrix_and_scale, pm_matrix_and_scale, an_matrix_and_scale, cd_matrix_and_scale, ct_matrix_and_scale, l_matrix_and_scale, c_matrix_and_scale⟩ := fnV_ok (f := A_f_matrix_and_scale) (n := "matrix_and_scale") (q := "matrix_and_scale") (st := s_matrix_and_scale) (c.defn 11 (d := d11) rfl) (c.fact 71 (f := e71) rfl)
  have k_matrix_and_scale : PySem.W.keepIn K (.ref (A_f_matrix_and_scale K)) = true := (c.fact 72 (f := e72) rfl)
  have a_matrix_of : PySem.W.nsIn K mainGlobals "matrix_of" = some (some (.ref (A_f_matrix_of K))) := of_decide_eq_true (c.fact 73 (f := e73) rfl)
  obtain ⟨oc_matrix_of, od_matrix_of, sl_matrix_of, kV_matrix_of, dc_matrix_of, pm_matrix_of, an_matrix_of, cd_matrix_of, ct_matrix_of, l_matrix_of, c_matrix_of⟩ := fnV_ok (f := A_f_matrix_of) (n := "matrix_of") (q := "matrix_of") (st := s_matrix_of) (c.defn 12 (d := d12) rfl) (c.fact 74 (f := e74) rfl)
  have k_matrix_of : PySem.W.keepIn K (.ref (A_f_matrix_of K)) = true := (c.fact 75 (f := e75) rfl)
  have a_shown_before : PySem.W.nsIn K mainGlobals "shown_before" = some (some (.ref (A_f_shown_before K))) := of_decide_eq_true (c.fact 76 (f := e76) rfl)
  obtain ⟨oc_shown_before, od_shown_before, sl_shown_before, kV_shown_before, dc_shown_before, pm_shown_before, an_shown_before, cd_shown_before, ct_shown_before, l_shown_before, c_shown_before⟩ := fnV_ok (f := A_f_shown_before) (n := "shown_before") (q := "shown_before") (st := s_shown_before) (c.defn 13 (d := d13) rfl) (c.fact 77 (f := e77) rfl)
  have k_shown_before : PySem.W.keepIn K (.ref (A_f_shown_before K)) = true := (c.fact 78 (f := e78) rfl)
  have a_common_divisor : PySem.W.nsIn K mainGlobals "common_divisor" = some (some (.ref (A_f_common_divisor K))) := of_decide_eq_true (c.fact 79 (f := e79) rfl)
  obtain ⟨oc_common_divisor, od_common_divisor, sl_common_divisor, kV_common_divisor, dc_common_divisor, pm_common_divisor, an_common_divisor, cd_common_divisor, ct_common_divisor, l_common_divisor, c_common_divisor⟩ := fnV_ok (f := A_f_common_divisor) (n := "common_divisor") (q := "common_divisor") (st := s_common_divisor) (c.defn 14 (d := d14) rfl) (c.fact 80 (f := e80) rfl)
  have k_common_divisor : PySem.W.keepIn K (.ref (A_f_common_divisor K)) = true := (c.fact 81 (f := e81) rfl)
  have a_lowest_terms : PySem.W.nsIn K mainGlobals "lowest_terms" = some (some (.ref (A_f_lowest_terms K))) := of_decide_eq_true (c.fact 82 (f := e82) rfl)
  obtain ⟨oc_lowest_terms, od_lowest_terms, sl_lowest_terms, kV_lowest_terms, dc_lowest_terms, pm_lowest_terms, an_lowest_terms, cd_lowest_terms, ct_lowest_terms, l_lowest_terms, c_lowest_terms⟩ := fnV_ok (f := A_f_lowest_terms) (n := "lowest_terms") (q := "lowest_terms") (st := s_lowest_terms) (c.defn 15 (d := d15) rfl) (c.fact 83 (f := e83) rfl)
  have k_lowest_terms : PySem.W.keepIn K (.ref (A_f_lowest_terms K)) = true := (c.fact 84 (f := e84) rfl)
  obtain ⟨t2, aPi⟩ := intB_ok (x := "MOST_PIECES") (i := 4) (c.fact 85 (f := e85) rfl)
  have aJ : PySem.W.nsIn K mainGlobals "JoinedRow" = some (some (.ref (A_J K))) := of_decide_eq_true (c.fact 86 (f := e86) rfl)
  have pgJ : PySem.W.plainGet K (A_J K) Str.empty = true := (c.fact 87 (f := e87) rfl)
  have hdJ : PySem.W.hasDictIn K (A_J K) = true := (c.fact 88 (f := e88) rfl)
  have poJ : PySem.W.plainOver K (A_J K) = true := (c.fact 89 (f := e89) rfl)
  have saJ : PySem.W.findIn K (.ref (A_J K)) "__setattr__" = some (some (.builtin "object.__setattr__")) := of_decide_eq_true (c.fact 90 (f := e90) rfl)
  have mkJ : PySem.W.makesIn K (A_J K) = true := (c.fact 91 (f := e91) rfl)
  have kcJ : PySem.W.keepIn K (.ref (A_J K)) = true := (c.fact 92 (f := e92) rfl)
  have nJ_row : PySem.W.findIn K (.ref (A_J K)) "row" = some none := of_decide_eq_true (c.fact 93 (f := e93) rfl)
  have caJ : PySem.W.findIn K (.ref (A_J K)) "__class__" = some (some (.builtin "object.__class__")) := of_decide_eq_true (c.fact 94 (f := e94) rfl)
  have cmJ : PySem.W.mroIn K (A_J K) (.type "object") = some true := of_decide_eq_true (c.fact 95 (f := e95) rfl)
  have cn : PySem.W.specialIn K (.builtin "object.__class__") "__get__" = some (some (.builtin "getset_descriptor.__get__")) := of_decide_eq_true (c.fact 96 (f := e96) rfl)
  have ct : PySem.W.takesIn K (.builtin "object.__class__") = some true := of_decide_eq_true (c.fact 97 (f := e97) rfl)
  have aC : PySem.W.nsIn K mainGlobals "Pattern" = some (some (.ref (A_C K))) := of_decide_eq_true (c.fact 98 (f := e98) rfl)
  have pgC : PySem.W.plainGet K (A_C K) Str.empty = true := (c.fact 99 (f := e99) rfl)
  have hdC : PySem.W.hasDictIn K (A_C K) = true := (c.fact 100 (f := e100) rfl)
  have poC : PySem.W.plainOver K (A_C K) = true := (c.fact 101 (f := e101) rfl)
  have saC : PySem.W.findIn K (.ref (A_C K)) "__setattr__" = some (some (.builtin "object.__setattr__")) := of_decide_eq_true (c.fact 102 (f := e102) rfl)
  have mkC : PySem.W.makesIn K (A_C K) = true := (c.fact 103 (f := e103) rfl)
  have kcC : PySem.W.keepIn K (.ref (A_C K)) = true := (c.fact 104 (f := e104) rfl)
  have nC_row : PySem.W.findIn K (.ref (A_C K)) "row" = some none := of_decide_eq_true (c.fact 105 (f := e105) rfl)
  have nC_matrix : PySem.W.findIn K (.ref (A_C K)) "matrix" = some none := of_decide_eq_true (c.fact 106 (f := e106) rfl)
  have nC_scale : PySem.W.findIn K (.ref (A_C K)) "scale" = some none := of_decide_eq_true (c.fact 107 (f := e107) rfl)
  have nC_four : PySem.W.findIn K (.ref (A_C K)) "four" = some none := of_decide_eq_true (c.fact 108 (f := e108) rfl)
  have caC : PySem.W.findIn K (.ref (A_C K)) "__class__" = some (some (.builtin "object.__class__")) := of_decide_eq_true (c.fact 109 (f := e109) rfl)
  have cmC : PySem.W.mroIn K (A_C K) (.type "object") = some true := of_decide_eq_true (c.fact 110 (f := e110) rfl)
  have kt_J : PySem.W.kitOne K (.type "tuple") (.ref (A_J K)) = some false := of_decide_eq_true (c.fact 111 (f := e111) rfl)
  have rdC : PySem.W.readsIn K (A_C K) (.type "type") = true := (c.fact 112 (f := e112) rfl)
  have gaC : PySem.W.specialIn K (.ref (A_C K)) "__getattribute__" = some (some (.builtin "type.__getattribute__")) := of_decide_eq_true (c.fact 113 (f := e113) rfl)
  have a_checked_row : PySem.W.nsIn K mainGlobals "checked_row" = some (some (.ref (A_f_checked_row K))) := of_decide_eq_true (c.fact 114 (f := e114) rfl)
  obtain ⟨oc_checked_row, od_checked_row, sl_checked_row, kV_checked_row, dc_checked_row, pm_checked_row, an_checked_row, cd_checked_row, ct_checked_row, l_checked_row, c_checked_row⟩ := fnV_ok (f := A_f_checked_row) (n := "checked_row") (q := "checked_row") (st := s_checked_row) (c.defn 16 (d := d16) rfl) (c.fact 115 (f := e115) rfl)
  have k_checked_row : PySem.W.keepIn K (.ref (A_f_checked_row K)) = true := (c.fact 116 (f := e116) rfl)
  have a_lowest_pair : PySem.W.nsIn K mainGlobals "lowest_pair" = some (some (.ref (A_f_lowest_pair K))) := of_decide_eq_true (c.fact 117 (f := e117) rfl)
  obtain ⟨oc_lowest_pair, od_lowest_pair, sl_lowest_pair, kV_lowest_pair, dc_lowest_pair, pm_lowest_pair, an_lowest_pair, cd_lowest_pair, ct_lowest_pair, l_lowest_pair, c_lowest_pair⟩ := fnV_ok (f := A_f_lowest_pair) (n := "lowest_pair") (q := "lowest_pair") (st := s_lowest_pair) (c.defn 17 (d := d17) rfl) (c.fact 118 (f := e118) rfl)
  have k_lowest_pair : PySem.W.keepIn K (.ref (A_f_lowest_pair K)) = true := (c.fact 119 (f := e119) rfl)
  have a_piece_text : PySem.W.nsIn K mainGlobals "piece_text" = some (some (.ref (A_f_piece_text K))) := of_decide_eq_true (c.fact 120 (f := e120) rfl)
  obtain ⟨oc_piece_text, od_piece_text, sl_piece_text, kV_piece_text, dc_piece_text, pm_piece_text, an_piece_text, cd_piece_text, ct_piece_text, l_piece_text, c_piece_text⟩ := fnV_ok (f := A_f_piece_text) (n := "piece_text") (q := "piece_text") (st := s_piece_text) (c.defn 18 (d := d18) rfl) (c.fact 121 (f := e121) rfl)
  have k_piece_text : PySem.W.keepIn K (.ref (A_f_piece_text K)) = true := (c.fact 122 (f := e122) rfl)
  have a_piece_with_text : PySem.W.nsIn K mainGlobals "piece_with_text" = some (some (.ref (A_f_piece_with_text K))) := of_decide_eq_true (c.fact 123 (f := e123) rfl)
  obtain ⟨oc_piece_with_text, od_piece_with_text, sl_piece_with_text, kV_piece_with_text, dc_piece_with_text, pm_piece_with_text, an_piece_with_text, cd_piece_with_text, ct_piece_with_text, l_piece_with_text, c_piece_with_text⟩ := fnV_ok (f := A_f_piece_with_text) (n := "piece_with_text") (q := "piece_with_text") (st := s_piece_with_text) (c.defn 19 (d := d19) rfl) (c.fact 124 (f := e124) rfl)
  have k_piece_with_text : PySem.W.keepIn K (.ref (A_f_piece_with_text K)) = true := (c.fact 125 (f := e125) rfl)
  have a_JoinedRow_init : PySem.W.findIn K (.ref (A_J K)) "__init__" = some (some (.ref (A_f_JoinedRow_init K))) := of_decide_eq_true (c.fact 126 (f := e126) rfl)
  have i_JoinedRow_init : PySem.W.isFn K (.ref (A_f_JoinedRow_init K)) = true := (c.fact 127 (f := e127) rfl)
  obtain ⟨oc_JoinedRow_init, od_JoinedRow_init, sl_JoinedRow_init, kV_JoinedRow_init, dc_JoinedRow_init, pm_JoinedRow_init, an_JoinedRow_init, cd_JoinedRow_init, ct_JoinedRow_init, l_JoinedRow_init, c_JoinedRow_init⟩ := fnV_ok (f := A_f_JoinedRow_init) (n := "__init__") (q := "JoinedRow.__init__") (st := s_JoinedRow_init) (c.defn 20 (d := d20) rfl) (c.fact 128 (f := e128) rfl)
  have k_JoinedRow_init : PySem.W.keepIn K (.ref (A_f_JoinedRow_init K)) = true := (c.fact 129 (f := e129) rfl)
  have a_Pattern_init : PySem.W.findIn K (.ref (A_C K)) "__init__" = some (some (.ref (A_f_Pattern_init K))) := of_decide_eq_true (c.fact 130 (f := e130) rfl)
  have i_Pattern_init : PySem.W.isFn K (.ref (A_f_Pattern_init K)) = true := (c.fact 131 (f := e131) rfl)
  obtain ⟨oc_Pattern_init, od_Pattern_init, sl_Pattern_init, kV_Pattern_init, dc_Pattern_init, pm_Pattern_init, an_Pattern_init, cd_Pattern_init, ct_Pattern_init, l_Pattern_init, c_Pattern_init⟩ := fnV_ok (f := A_f_Pattern_init) (n := "__init__") (q := "Pattern.__init__") (st := s_Pattern_init) (c.defn 21 (d := d21) rfl) (c.fact 132 (f := e132) rfl)
  have k_Pattern_init : PySem.W.keepIn K (.ref (A_f_Pattern_init K)) = true := (c.fact 133 (f := e133) rfl)
  have sa_Pattern_read := smB_ok (a := A_C) (p := A_pr_Pattern_read) (m := "read") (c.fact 134 (f := e134) rfl)
  obtain ⟨rest_Pattern_read, sc_Pattern_read⟩ := recB_ok (a := A_pr_Pattern_read) (f := A_f_Pattern_read) (s := "staticmethod") (c.fact 135 (f := e135) rfl)
  obtain ⟨oc_Pattern_read, od_Pattern_read, sl_Pattern_read, kV_Pattern_read, dc_Pattern_read, pm_Pattern_read, an_Pattern_read, cd_Pattern_read, ct_Pattern_read, l_Pattern_read, c_Pattern_read⟩ := fnV_ok (f := A_f_Pattern_read) (n := "read") (q := "Pattern.read") (st := s_Pattern_read) (c.defn 22 (d := d22) rfl) (c.fact 136 (f := e136) rfl)
  have k_Pattern_read : PySem.W.keepIn K (.ref (A_f_Pattern_read K)) = true := (c.fact 137 (f := e137) rfl)
  have pa_Pattern_pieces : PySem.W.findIn K (.ref (A_C K)) "pieces" = some (some (.ref (A_pr_Pattern_pieces K))) := of_decide_eq_true (c.fact 138 (f := e138) rfl)
  have pg_Pattern_pieces : PySem.W.specialIn K (.ref (A_pr_Pattern_pieces K)) "__get__" = some (some (.builtin "property.__get__")) := of_decide_eq_true (c.fact 139 (f := e139) rfl)
  have pt_Pattern_pieces : PySem.W.takesIn K (.ref (A_pr_Pattern_pieces K)) = some true := of_decide_eq_true (c.fact 140 (f := e140) rfl)
  obtain ⟨rest_Pattern_pieces, pc_Pattern_pieces⟩ := recB_ok (a := A_pr_Pattern_pieces) (f := A_f_Pattern_pieces) (s := "property") (c.fact 141 (f := e141) rfl)
  obtain ⟨oc_Pattern_pieces, od_Pattern_pieces, sl_Pattern_pieces, kV_Pattern_pieces, dc_Pattern_pieces, pm_Pattern_pieces, an_Pattern_pieces, cd_Pattern_pieces, ct_Pattern_pieces, l_Pattern_pieces, c_Pattern_pieces⟩ := fnV_ok (f := A_f_Pattern_pieces) (n := "pieces") (q := "Pattern.pieces") (st := s_Pattern_pieces) (c.defn 23 (d := d23) rfl) (c.fact 142 (f := e142) rfl)
  have k_Pattern_pieces : PySem.W.keepIn K (.ref (A_f_Pattern_pieces K)) = true := (c.fact 143 (f := e143) rfl)
  have kt_CNoneType : PySem.W.kitOne K (.type "NoneType") (.ref (A_C K)) = some false := of_decide_eq_true (c.fact 144 (f := e144) rfl)
  have kt_Cbool : PySem.W.kitOne K (.type "bool") (.ref (A_C K)) = some false := of_decide_eq_true (c.fact 145 (f := e145) rfl)
  have kt_Cint : PySem.W.kitOne K (.type "int") (.ref (A_C K)) = some false := of_decide_eq_true (c.fact 146 (f := e146) rfl)
  have kt_Cstr : PySem.W.kitOne K (.type "str") (.ref (A_C K)) = some false := of_decide_eq_true (c.fact 147 (f := e147) rfl)
  have kt_Clist : PySem.W.kitOne K (.type "list") (.ref (A_C K)) = some false := of_decide_eq_true (c.fact 148 (f := e148) rfl)
  have kt_Cdict : PySem.W.kitOne K (.type "dict") (.ref (A_C K)) = some false := of_decide_eq_true (c.fact 149 (f := e149) rfl)
  have kt_Ctuple : PySem.W.kitOne K (.type "tuple") (.ref (A_C K)) = some false := of_decide_eq_true (c.fact 150 (f := e150) rfl)
  have a_difference : PySem.W.nsIn K mainGlobals "difference" = some (some (.ref (A_f_difference K))) := of_decide_eq_true (c.fact 151 (f := e151) rfl)
  obtain ⟨oc_difference, od_difference, sl_difference, kV_difference, dc_difference, pm_difference, an_difference, cd_difference, ct_difference, l_difference, c_difference⟩ := fnV_ok (f := A_f_difference) (n := "difference") (q := "difference") (st := s_difference) (c.defn 24 (d := d24) rfl) (c.fact 152 (f := e152) rfl)
  have k_difference : PySem.W.keepIn K (.ref (A_f_difference K)) = true := (c.fact 153 (f := e153) rfl)
  have a_sign_at : PySem.W.nsIn K mainGlobals "sign_at" = some (some (.ref (A_f_sign_at K))) := of_decide_eq_true (c.fact 154 (f := e154) rfl)
  obtain ⟨oc_sign_at, od_sign_at, sl_sign_at, kV_sign_at, dc_sign_at, pm_sign_at, an_sign_at, cd_sign_at, ct_sign_at, l_sign_at, c_sign_at⟩ := fnV_ok (f := A_f_sign_at) (n := "sign_at") (q := "sign_at") (st := s_sign_at) (c.defn 25 (d := d25) rfl) (c.fact 155 (f := e155) rfl)
  have k_sign_at : PySem.W.keepIn K (.ref (A_f_sign_at K)) = true := (c.fact 156 (f := e156) rfl)
  have a_sign_far_out : PySem.W.nsIn K mainGlobals "sign_far_out" = some (some (.ref (A_f_sign_far_out K))) := of_decide_eq_true (c.fact 157 (f := e157) rfl)
  obtain ⟨oc_sign_far_out, od_sign_far_out, sl_sign_far_out, kV_sign_far_out, dc_sign_far_out, pm_sign_far_out, an_sign_far_out, cd_sign_far_out, ct_sign_far_out, l_sign_far_out, c_sign_far_out⟩ := fnV_ok (f := A_f_sign_far_out) (n := "sign_far_out") (q := "sign_far_out") (st := s_sign_far_out) (c.defn 26 (d := d26) rfl) (c.fact 158 (f := e158) rfl)
  have k_sign_far_out : PySem.W.keepIn K (.ref (A_f_sign_far_out K)) = true := (c.fact 159 (f := e159) rfl)
  have a_sign_from : PySem.W.nsIn K mainGlobals "sign_from" = some (some (.ref (A_f_sign_from K))) := of_decide_eq_true (c.fact 160 (f := e160) rfl)
  obtain ⟨oc_sign_from, od_sign_from, sl_sign_from, kV_sign_from, dc_sign_from, pm_sign_from, an_sign_from, cd_sign_from, ct_sign_from, l_sign_from, c_sign_from⟩ := fnV_ok (f := A_f_sign_from) (n := "sign_from") (q := "sign_from") (st := s_sign_from) (c.defn 27 (d := d27) rfl) (c.fact 161 (f := e161) rfl)
  have k_sign_from : PySem.W.keepIn K (.ref (A_f_sign_from K)) = true := (c.fact 162 (f := e162) rfl)
  have a_sign_towards : PySem.W.nsIn K mainGlobals "sign_towards" = some (some (.ref (A_f_sign_towards K))) := of_decide_eq_true (c.fact 163 (f := e163) rfl)
  obtain ⟨oc_sign_towards, od_sign_towards, sl_sign_towards, kV_sign_towards, dc_sign_towards, pm_sign_towards, an_sign_towards, cd_sign_towards, ct_sign_towards, l_sign_towards, c_sign_towards⟩ := fnV_ok (f := A_f_sign_towards) (n := "sign_towards") (q := "sign_towards") (st := s_sign_towards) (c.defn 28 (d := d28) rfl) (c.fact 164 (f := e164) rfl)
  have k_sign_towards : PySem.W.keepIn K (.ref (A_f_sign_towards K)) = true := (c.fact 165 (f := e165) rfl)
  have a_limit_beside : PySem.W.nsIn K mainGlobals "limit_beside" = some (some (.ref (A_f_limit_beside K))) := of_decide_eq_true (c.fact 166 (f := e166) rfl)
  obtain ⟨oc_limit_beside, od_limit_beside, sl_limit_beside, kV_limit_beside, dc_limit_beside, pm_limit_beside, an_limit_beside, cd_limit_beside, ct_limit_beside, l_limit_beside, c_limit_beside⟩ := fnV_ok (f := A_f_limit_beside) (n := "limit_beside") (q := "limit_beside") (st := s_limit_beside) (c.defn 29 (d := d29) rfl) (c.fact 167 (f := e167) rfl)
  have k_limit_beside : PySem.W.keepIn K (.ref (A_f_limit_beside K)) = true := (c.fact 168 (f := e168) rfl)
  have a_never_below : PySem.W.nsIn K mainGlobals "never_below" = some (some (.ref (A_f_never_below K))) := of_decide_eq_true (c.fact 169 (f := e169) rfl)
  obtain ⟨oc_never_below, od_never_below, sl_never_below, kV_never_below, dc_never_below, pm_never_below, an_never_below, cd_never_below, ct_never_below, l_never_below, c_never_below⟩ := fnV_ok (f := A_f_never_below) (n := "never_below") (q := "never_below") (st := s_never_below) (c.defn 30 (d := d30) rfl) (c.fact 170 (f := e170) rfl)
  have k_never_below : PySem.W.keepIn K (.ref (A_f_never_below K)) = true := (c.fact 171 (f := e171) rfl)
  have a_square_root : PySem.W.nsIn K mainGlobals "square_root" = some (some (.ref (A_f_square_root K))) := of_decide_eq_true (c.fact 172 (f := e172) rfl)
  obtain ⟨oc_square_root, od_square_root, sl_square_root, kV_square_root, dc_square_root, pm_square_root, an_square_root, cd_square_root, ct_square_root, l_square_root, c_square_root⟩ := fnV_ok (f := A_f_square_root) (n := "square_root") (q := "square_root") (st := s_square_root) (c.defn 31 (d := d31) rfl) (c.fact 173 (f := e173) rfl)
  have k_square_root : PySem.W.keepIn K (.ref (A_f_square_root K)) = true := (c.fact 174 (f := e174) rfl)
  have a_under_root : PySem.W.nsIn K mainGlobals "under_root" = some (some (.ref (A_f_under_root K))) := of_decide_eq_true (c.fact 175 (f := e175) rfl)
  obtain ⟨oc_under_root, od_under_root, sl_under_root, kV_under_root, dc_under_root, pm_under_root, an_under_root, cd_under_root, ct_under_root, l_under_root, c_under_root⟩ := fnV_ok (f := A_f_under_root) (n := "under_root") (q := "under_root") (st := s_under_root) (c.defn 32 (d := d32) rfl) (c.fact 176 (f := e176) rfl)
  have k_under_root : PySem.W.keepIn K (.ref (A_f_under_root K)) = true := (c.fact 177 (f := e177) rfl)
  have a_equation_of_fraction : PySem.W.nsIn K mainGlobals "equation_of_fraction" = some (some (.ref (A_f_equation_of_fraction K))) := of_decide_eq_true (c.fact 178 (f := e178) rfl)
  obtain ⟨oc_equation_of_fraction, od_equation_of_fraction, sl_equation_of_fraction, kV_equation_of_fraction, dc_equation_of_fraction, pm_equation_of_fraction, an_equation_of_fraction, cd_equation_of_fraction, ct_equation_of_fraction, l_equation_of_fraction, c_equation_of_fraction⟩ := fnV_ok (f := A_f_equation_of_fraction) (n := "equation_of_fraction") (q := "equation_of_fraction") (st := s_equation_of_fraction) (c.defn 33 (d := d33) rfl) (c.fact 179 (f := e179) rfl)
  have k_equation_of_fraction : PySem.W.keepIn K (.ref (A_f_equation_of_fraction K)) = true := (c.fact 180 (f := e180) rfl)
  have a_simplest_equation : PySem.W.nsIn K mainGlobals "simplest_equation" = some (some (.ref (A_f_simplest_equation K))) := of_decide_eq_true (c.fact 181 (f := e181) rfl)
  obtain ⟨oc_simplest_equation, od_simplest_equation, sl_simplest_equation, kV_simplest_equation, dc_simplest_equation, pm_simplest_equation, an_simplest_equation, cd_simplest_equation, ct_simplest_equation, l_simplest_equation, c_simplest_equation⟩ := fnV_ok (f := A_f_simplest_equation) (n := "simplest_equation") (q := "simplest_equation") (st := s_simplest_equation) (c.defn 34 (d := d34) rfl) (c.fact 182 (f := e182) rfl)
  have k_simplest_equation : PySem.W.keepIn K (.ref (A_f_simplest_equation K)) = true := (c.fact 183 (f := e183) rfl)
  have a_Exact_init : PySem.W.findIn K (.ref (A_Ce K)) "__init__" = some (some (.ref (A_f_Exact_init K))) := of_decide_eq_true (c.fact 184 (f := e184) rfl)
  have i_Exact_init : PySem.W.isFn K (.ref (A_f_Exact_init K)) = true := (c.fact 185 (f := e185) rfl)
  obtain ⟨oc_Exact_init, od_Exact_init, sl_Exact_init, kV_Exact_init, dc_Exact_init, pm_Exact_init, an_Exact_init, cd_Exact_init, ct_Exact_init, l_Exact_init, c_Exact_init⟩ := fnV_ok (f := A_f_Exact_init) (n := "__init__") (q := "Exact.__init__") (st := s_Exact_init) (c.defn 35 (d := d35) rfl) (c.fact 186 (f := e186) rfl)
  have k_Exact_init : PySem.W.keepIn K (.ref (A_f_Exact_init K)) = true := (c.fact 187 (f := e187) rfl)
  have a_Exact_eq : PySem.W.findIn K (.ref (A_Ce K)) "__eq__" = some (some (.ref (A_f_Exact_eq K))) := of_decide_eq_true (c.fact 188 (f := e188) rfl)
  have i_Exact_eq : PySem.W.isFn K (.ref (A_f_Exact_eq K)) = true := (c.fact 189 (f := e189) rfl)
  obtain ⟨oc_Exact_eq, od_Exact_eq, sl_Exact_eq, kV_Exact_eq, dc_Exact_eq, pm_Exact_eq, an_Exact_eq, cd_Exact_eq, ct_Exact_eq, l_Exact_eq, c_Exact_eq⟩ := fnV_ok (f := A_f_Exact_eq) (n := "__eq__") (q := "Exact.__eq__") (st := s_Exact_eq) (c.defn 36 (d := d36) rfl) (c.fact 190 (f := e190) rfl)
  have k_Exact_eq : PySem.W.keepIn K (.ref (A_f_Exact_eq K)) = true := (c.fact 191 (f := e191) rfl)
  have pa_Exact_equation : PySem.W.findIn K (.ref (A_Ce K)) "equation" = some (some (.ref (A_pr_Exact_equation K))) := of_decide_eq_true (c.fact 192 (f := e192) rfl)
  have pg_Exact_equation : PySem.W.specialIn K (.ref (A_pr_Exact_equation K)) "__get__" = some (some (.builtin "property.__get__")) := of_decide_eq_true (c.fact 193 (f := e193) rfl)
  have pt_Exact_equation : PySem.W.takesIn K (.ref (A_pr_Exact_equation K)) = some true := of_decide_eq_true (c.fact 194 (f := e194) rfl)
  obtain ⟨rest_Exact_equation, pc_Exact_equation⟩ := recB_ok (a := A_pr_Exact_equation) (f := A_f_Exact_equation) (s := "property") (c.fact 195 (f := e195) rfl)
  obtain ⟨oc_Exact_equation, od_Exact_equation, sl_Exact_equation, kV_Exact_equation, dc_Exact_equation, pm_Exact_equation, an_Exact_equation, cd_Exact_equation, ct_Exact_equation, l_Exact_equation, c_Exact_equation⟩ := fnV_ok (f := A_f_Exact_equation) (n := "equation") (q := "Exact.equation") (st := s_Exact_equation) (c.defn 37 (d := d37) rfl) (c.fact 196 (f := e196) rfl)
  have k_Exact_equation : PySem.W.keepIn K (.ref (A_f_Exact_equation K)) = true := (c.fact 197 (f := e197) rfl)
  have a_ladder_limit : PySem.W.nsIn K mainGlobals "ladder_limit" = some (some (.ref (A_f_ladder_limit K))) := of_decide_eq_true (c.fact 198 (f := e198) rfl)
  obtain ⟨oc_ladder_limit, od_ladder_limit, sl_ladder_limit, kV_ladder_limit, dc_ladder_limit, pm_ladder_limit, an_ladder_limit, cd_ladder_limit, ct_ladder_limit, l_ladder_limit, c_ladder_limit⟩ := fnV_ok (f := A_f_ladder_limit) (n := "ladder_limit") (q := "ladder_limit") (st := s_ladder_limit) (c.defn 38 (d := d38) rfl) (c.fact 199 (f := e199) rfl)
  have k_ladder_limit : PySem.W.keepIn K (.ref (A_f_ladder_limit K)) = true := (c.fact 200 (f := e200) rfl)
  have a_check_pattern : PySem.W.nsIn K mainGlobals "check_pattern" = some (some (.ref (A_f_check_pattern K))) := of_decide_eq_true (c.fact 201 (f := e201) rfl)
  obtain ⟨oc_check_pattern, od_check_pattern, sl_check_pattern, kV_check_pattern, dc_check_pattern, pm_check_pattern, an_check_pattern, cd_check_pattern, ct_check_pattern, l_check_pattern, c_check_pattern⟩ := fnV_ok (f := A_f_check_pattern) (n := "check_pattern") (q := "check_pattern") (st := s_check_pattern) (c.defn 39 (d := d39) rfl) (c.fact 202 (f := e202) rfl)
  have k_check_pattern : PySem.W.keepIn K (.ref (A_f_check_pattern K)) = true := (c.fact 203 (f := e203) rfl)
  have a_check_resistance : PySem.W.nsIn K mainGlobals "check_resistance" = some (some (.ref (A_f_check_resistance K))) := of_decide_eq_true (c.fact 204 (f := e204) rfl)
  obtain ⟨oc_check_resistance, od_check_resistance, sl_check_resistance, kV_check_resistance, dc_check_resistance, pm_check_resistance, an_check_resistance, cd_check_resistance, ct_check_resistance, l_check_resistance, c_check_resistance⟩ := fnV_ok (f := A_f_check_resistance) (n := "check_resistance") (q := "check_resistance") (st := s_check_resistance) (c.defn 40 (d := d40) rfl) (c.fact 205 (f := e205) rfl)
  have k_check_resistance : PySem.W.keepIn K (.ref (A_f_check_resistance K)) = true := (c.fact 206 (f := e206) rfl)
  have a_times : PySem.W.nsIn K mainGlobals "times" = some (some (.ref (A_f_times K))) := of_decide_eq_true (c.fact 207 (f := e207) rfl)
  obtain ⟨oc_times, od_times, sl_times, kV_times, dc_times, pm_times, an_times, cd_times, ct_times, l_times, c_times⟩ := fnV_ok (f := A_f_times) (n := "times") (q := "times") (st := s_times) (c.defn 41 (d := d41) rfl) (c.fact 208 (f := e208) rfl)
  have k_times : PySem.W.keepIn K (.ref (A_f_times K)) = true := (c.fact 209 (f := e209) rfl)
  have a_more_load : PySem.W.nsIn K mainGlobals "more_load" = some (some (.ref (A_f_more_load K))) := of_decide_eq_true (c.fact 210 (f := e210) rfl)
  obtain ⟨oc_more_load, od_more_load, sl_more_load, kV_more_load, dc_more_load, pm_more_load, an_more_load, cd_more_load, ct_more_load, l_more_load, c_more_load⟩ := fnV_ok (f := A_f_more_load) (n := "more_load") (q := "more_load") (st := s_more_load) (c.defn 42 (d := d42) rfl) (c.fact 211 (f := e211) rfl)
  have k_more_load : PySem.W.keepIn K (.ref (A_f_more_load K)) = true := (c.fact 212 (f := e212) rfl)
  have a_certify_never : PySem.W.nsIn K mainGlobals "certify_never" = some (some (.ref (A_f_certify_never K))) := of_decide_eq_true (c.fact 213 (f := e213) rfl)
  obtain ⟨oc_certify_never, od_certify_never, sl_certify_never, kV_certify_never, dc_certify_never, pm_certify_never, an_certify_never, cd_certify_never, ct_certify_never, l_certify_never, c_certify_never⟩ := fnV_ok (f := A_f_certify_never) (n := "certify_never") (q := "certify_never") (st := s_certify_never) (c.defn 43 (d := d43) rfl) (c.fact 214 (f := e214) rfl)
  have k_certify_never : PySem.W.keepIn K (.ref (A_f_certify_never K)) = true := (c.fact 215 (f := e215) rfl)
  have a_certify_limit : PySem.W.nsIn K mainGlobals "certify_limit" = some (some (.ref (A_f_certify_limit K))) := of_decide_eq_true (c.fact 216 (f := e216) rfl)
  obtain ⟨oc_certify_limit, od_certify_limit, sl_certify_limit, kV_certify_limit, dc_certify_limit, pm_certify_limit, an_certify_limit, cd_certify_limit, ct_certify_limit, l_certify_limit, c_certify_limit⟩ := fnV_ok (f := A_f_certify_limit) (n := "certify_limit") (q := "certify_limit") (st := s_certify_limit) (c.defn 44 (d := d44) rfl) (c.fact 217 (f := e217) rfl)
  have k_certify_limit : PySem.W.keepIn K (.ref (A_f_certify_limit K)) = true := (c.fact 218 (f := e218) rfl)
  have a_check_never : PySem.W.nsIn K mainGlobals "check_never" = some (some (.ref (A_f_check_never K))) := of_decide_eq_true (c.fact 219 (f := e219) rfl)
  obtain ⟨oc_check_never, od_check_never, sl_check_never, kV_check_never, dc_check_never, pm_check_never, an_check_never, cd_check_never, ct_check_never, l_check_never, c_check_never⟩ := fnV_ok (f := A_f_check_never) (n := "check_never") (q := "check_never") (st := s_check_never) (c.defn 45 (d := d45) rfl) (c.fact 220 (f := e220) rfl)
  have k_check_never : PySem.W.keepIn K (.ref (A_f_check_never K)) = true := (c.fact 221 (f := e221) rfl)
  have a_check_more : PySem.W.nsIn K mainGlobals "check_more" = some (some (.ref (A_f_check_more K))) := of_decide_eq_true (c.fact 222 (f := e222) rfl)
  obtain ⟨oc_check_more, od_check_more, sl_check_more, kV_check_more, dc_check_more, pm_check_more, an_check_more, cd_check_more, ct_check_more, l_check_more, c_check_more⟩ := fnV_ok (f := A_f_check_more) (n := "check_more") (q := "check_more") (st := s_check_more) (c.defn 46 (d := d46) rfl) (c.fact 223 (f := e223) rfl)
  have k_check_more : PySem.W.keepIn K (.ref (A_f_check_more K)) = true := (c.fact 224 (f := e224) rfl)
  have a_check_limit : PySem.W.nsIn K mainGlobals "check_limit" = some (some (.ref (A_f_check_limit K))) := of_decide_eq_true (c.fact 225 (f := e225) rfl)
  obtain ⟨oc_check_limit, od_check_limit, sl_check_limit, kV_check_limit, dc_check_limit, pm_check_limit, an_check_limit, cd_check_limit, ct_check_limit, l_check_limit, c_check_limit⟩ := fnV_ok (f := A_f_check_limit) (n := "check_limit") (q := "check_limit") (st := s_check_limit) (c.defn 47 (d := d47) rfl) (c.fact 226 (f := e226) rfl)
  have k_check_limit : PySem.W.keepIn K (.ref (A_f_check_limit K)) = true := (c.fact 227 (f := e227) rfl)
  have kr_kn : PySem.W.nsIn K (A_aCh K) "never" = some (some (.ref (A_f_check_never K))) := of_decide_eq_true (c.fact 228 (f := e228) rfl)
  have kr_ko : PySem.W.nsIn K (A_aCh K) "more" = some (some (.ref (A_f_check_more K))) := of_decide_eq_true (c.fact 229 (f := e229) rfl)
  have kr_kl : PySem.W.nsIn K (A_aCh K) "limit" = some (some (.ref (A_f_check_limit K))) := of_decide_eq_true (c.fact 230 (f := e230) rfl)
  have kr_nd : decide ([(A_f_check_never K), (A_f_check_more K), (A_f_check_limit K)].Nodup) = true := (c.fact 231 (f := e231) rfl)
  have a_accepts : PySem.W.nsIn K mainGlobals "accepts" = some (some (.ref (A_f_accepts K))) := of_decide_eq_true (c.fact 232 (f := e232) rfl)
  obtain ⟨oc_accepts, od_accepts, sl_accepts, kV_accepts, dc_accepts, pm_accepts, an_accepts, cd_accepts, ct_accepts, l_accepts, c_accepts⟩ := fnV_ok (f := A_f_accepts) (n := "accepts") (q := "accepts") (st := s_accepts) (c.defn 48 (d := d48) rfl) (c.fact 233 (f := e233) rfl)
  have k_accepts : PySem.W.keepIn K (.ref (A_f_accepts K)) = true := (c.fact 234 (f := e234) rfl)
  have aX0 : PySem.W.nsIn K mainGlobals "NotAPattern" = some (some (.ref (A_X0 K))) := of_decide_eq_true (c.fact 235 (f := e235) rfl)
  have aX1 : PySem.W.nsIn K mainGlobals "NotARun" = some (some (.ref (A_X1 K))) := of_decide_eq_true (c.fact 236 (f := e236) rfl)
  have aX2 : PySem.W.nsIn K mainGlobals "InvalidResistance" = some (some (.ref (A_X2 K))) := of_decide_eq_true (c.fact 237 (f := e237) rfl)
  have aX3 : PySem.W.nsIn K mainGlobals "InvalidCount" = some (some (.ref (A_X3 K))) := of_decide_eq_true (c.fact 238 (f := e238) rfl)
  have aX4 : PySem.W.nsIn K mainGlobals "InvalidText" = some (some (.ref (A_X4 K))) := of_decide_eq_true (c.fact 239 (f := e239) rfl)
  have aX5 : PySem.W.nsIn K mainGlobals "InvalidName" = some (some (.ref (A_X5 K))) := of_decide_eq_true (c.fact 240 (f := e240) rfl)
  have aX6 : PySem.W.nsIn K mainGlobals "InvalidClaim" = some (some (.ref (A_X6 K))) := of_decide_eq_true (c.fact 241 (f := e241) rfl)
  have aX7 : PySem.W.nsIn K mainGlobals "InvalidIndex" = some (some (.ref (A_X7 K))) := of_decide_eq_true (c.fact 242 (f := e242) rfl)
  have aX8 : PySem.W.nsIn K mainGlobals "InvalidDeeds" = some (some (.ref (A_X8 K))) := of_decide_eq_true (c.fact 243 (f := e243) rfl)
  have aX9 : PySem.W.nsIn K mainGlobals "UnknownName" = some (some (.ref (A_X9 K))) := of_decide_eq_true (c.fact 244 (f := e244) rfl)
  have aX10 : PySem.W.nsIn K mainGlobals "InUse" = some (some (.ref (A_X10 K))) := of_decide_eq_true (c.fact 245 (f := e245) rfl)
  have aX11 : PySem.W.nsIn K mainGlobals "TooMany" = some (some (.ref (A_X11 K))) := of_decide_eq_true (c.fact 246 (f := e246) rfl)
  have aX12 : PySem.W.nsIn K mainGlobals "Broken" = some (some (.ref (A_X12 K))) := of_decide_eq_true (c.fact 247 (f := e247) rfl)
  have aX13 : PySem.W.nsIn K mainGlobals "NoLimit" = some (some (.ref (A_X13 K))) := of_decide_eq_true (c.fact 248 (f := e248) rfl)
  have aX14 : PySem.W.nsIn K mainGlobals "NothingToUndo" = some (some (.ref (A_X14 K))) := of_decide_eq_true (c.fact 249 (f := e249) rfl)
  have aX15 : PySem.W.nsIn K mainGlobals "WrongValue" = some (some (.ref (A_X15 K))) := of_decide_eq_true (c.fact 250 (f := e250) rfl)
  have aX16 : PySem.W.nsIn K mainGlobals "WrongName" = some (some (.ref (A_X16 K))) := of_decide_eq_true (c.fact 251 (f := e251) rfl)
  have aX17 : PySem.W.nsIn K mainGlobals "NoAnswer" = some (some (.ref (A_X17 K))) := of_decide_eq_true (c.fact 252 (f := e252) rfl)
  have a_WrongValue_init : PySem.W.findIn K (.ref (A_X15 K)) "__init__" = some (some (.ref (A_f_WrongValue_init K))) := of_decide_eq_true (c.fact 253 (f := e253) rfl)
  have i_WrongValue_init : PySem.W.isFn K (.ref (A_f_WrongValue_init K)) = true := (c.fact 254 (f := e254) rfl)
  obtain ⟨oc_WrongValue_init, od_WrongValue_init, sl_WrongValue_init, kV_WrongValue_init, dc_WrongValue_init, pm_WrongValue_init, an_WrongValue_init, cd_WrongValue_init, ct_WrongValue_init, l_WrongValue_init, c_WrongValue_init⟩ := fnV_ok (f := A_f_WrongValue_init) (n := "__init__") (q := "WrongValue.__init__") (st := s_WrongValue_init) (c.defn 49 (d := d49) rfl) (c.fact 255 (f := e255) rfl)
  have k_WrongValue_init : PySem.W.keepIn K (.ref (A_f_WrongValue_init K)) = true := (c.fact 256 (f := e256) rfl)
  have rd_15 : PySem.W.readsIn K (A_X15 K) (.type "type") = true := (c.fact 257 (f := e257) rfl)
  have ga_15 : PySem.W.specialIn K (.ref (A_X15 K)) "__getattribute__" = some (some (.builtin "type.__getattribute__")) := of_decide_eq_true (c.fact 258 (f := e258) rfl)
  have fc_15 := clvB_ok (a := A_X15) (f := A_f_WrongValue_init) (m := "__init__") (c.fact 259 (f := e259) rfl)
  have a_NotAPattern_init : PySem.W.findIn K (.ref (A_X0 K)) "__init__" = some (some (.ref (A_f_NotAPattern_init K))) := of_decide_eq_true (c.fact 260 (f := e260) rfl)
  have i_NotAPattern_init : PySem.W.isFn K (.ref (A_f_NotAPattern_init K)) = true := (c.fact 261 (f := e261) rfl)
  obtain ⟨oc_NotAPattern_init, od_NotAPattern_init, sl_NotAPattern_init, kV_NotAPattern_init, dc_NotAPattern_init, pm_NotAPattern_init, an_NotAPattern_init, cd_NotAPattern_init, ct_NotAPattern_init, l_NotAPattern_init, c_NotAPattern_init⟩ := fnV_ok (f := A_f_NotAPattern_init) (n := "__init__") (q := "NotAPattern.__init__") (st := s_NotAPattern_init) (c.defn 50 (d := d50) rfl) (c.fact 262 (f := e262) rfl)
  have k_NotAPattern_init : PySem.W.keepIn K (.ref (A_f_NotAPattern_init K)) = true := (c.fact 263 (f := e263) rfl)
  have xb_0 : xcB K (A_X0 K) [.type "ValueError", .type "Exception", .type "BaseException", .type "object"] "ValueError.__new__" = true := (c.fact 264 (f := e264) rfl)
  have ro_0 : rowBF K [(A_X0 K), (A_X1 K), (A_X2 K), (A_X3 K), (A_X4 K), (A_X5 K), (A_X6 K), (A_X7 K), (A_X8 K), (A_X9 K), (A_X10 K), (A_X11 K), (A_X12 K), (A_X13 K), (A_X14 K), (A_X15 K), (A_X16 K), (A_X17 K)] 0 = true := (c.fact 265 (f := e265) rfl)
  have any_0 : PySem.W.exmAny K (.ref (A_X0 K)) [.ref (A_X15 K), .ref (A_X16 K), .ref (A_X17 K)] = some true := of_decide_eq_true (c.fact 266 (f := e266) rfl)
  have ty_0 : PySem.W.typeIn K (.ref (A_X0 K)) = some (.type "type") := of_decide_eq_true (c.fact 267 (f := e267) rfl)
  have no_0 : PySem.W.findIn K (.ref (A_X0 K)) "given" = some none := of_decide_eq_true (c.fact 268 (f := e268) rfl)
  have a_InvalidResistance_init : PySem.W.findIn K (.ref (A_X2 K)) "__init__" = some (some (.ref (A_f_InvalidResistance_init K))) := of_decide_eq_true (c.fact 269 (f := e269) rfl)
  have i_InvalidResistance_init : PySem.W.isFn K (.ref (A_f_InvalidResistance_init K)) = true := (c.fact 270 (f := e270) rfl)
  obtain ⟨oc_InvalidResistance_init, od_InvalidResistance_init, sl_InvalidResistance_init, kV_InvalidResistance_init, dc_InvalidResistance_init, pm_InvalidResistance_init, an_InvalidResistance_init, cd_InvalidResistance_init, ct_InvalidResistance_init, l_InvalidResistance_init, c_InvalidResistance_init⟩ := fnV_ok (f := A_f_InvalidResistance_init) (n := "__init__") (q := "InvalidResistance.__init__") (st := s_InvalidResistance_init) (c.defn 51 (d := d51) rfl) (c.fact 271 (f := e271) rfl)
  have k_InvalidResistance_init : PySem.W.keepIn K (.ref (A_f_InvalidResistance_init K)) = true := (c.fact 272 (f := e272) rfl)
  have xb_2 : xcB K (A_X2 K) [.type "ValueError", .type "Exception", .type "BaseException", .type "object"] "ValueError.__new__" = true := (c.fact 273 (f := e273) rfl)
  have ro_2 : rowBF K [(A_X0 K), (A_X1 K), (A_X2 K), (A_X3 K), (A_X4 K), (A_X5 K), (A_X6 K), (A_X7 K), (A_X8 K), (A_X9 K), (A_X10 K), (A_X11 K), (A_X12 K), (A_X13 K), (A_X14 K), (A_X15 K), (A_X16 K), (A_X17 K)] 2 = true := (c.fact 274 (f := e274) rfl)
  have any_2 : PySem.W.exmAny K (.ref (A_X2 K)) [.ref (A_X15 K), .ref (A_X16 K), .ref (A_X17 K)] = some true := of_decide_eq_true (c.fact 275 (f := e275) rfl)
  have ty_2 : PySem.W.typeIn K (.ref (A_X2 K)) = some (.type "type") := of_decide_eq_true (c.fact 276 (f := e276) rfl)
  have no_2 : PySem.W.findIn K (.ref (A_X2 K)) "given" = some none := of_decide_eq_true (c.fact 277 (f := e277) rfl)
  have a_law_error : PySem.W.nsIn K mainGlobals "_law_error" = some (some (.ref (A_f_law_error K))) := of_decide_eq_true (c.fact 278 (f := e278) rfl)
  obtain ⟨oc_law_error, od_law_error, sl_law_error, kV_law_error, dc_law_error, pm_law_error, an_law_error, cd_law_error, ct_law_error, l_law_error, c_law_error⟩ := fnV_ok (f := A_f_law_error) (n := "_law_error") (q := "_law_error") (st := s_law_error) (c.defn 52 (d := d52) rfl) (c.fact 279 (f := e279) rfl)
  have k_law_error : PySem.W.keepIn K (.ref (A_f_law_error K)) = true := (c.fact 280 (f := e280) rfl)
  have a_law_told : PySem.W.nsIn K mainGlobals "_law_told" = some (some (.ref (A_f_law_told K))) := of_decide_eq_true (c.fact 281 (f := e281) rfl)
  obtain ⟨oc_law_told, od_law_told, sl_law_told, kV_law_told, dc_law_told, pm_law_told, an_law_told, cd_law_told, ct_law_told, l_law_told, c_law_told⟩ := fnV_ok (f := A_f_law_told) (n := "_law_told") (q := "_law_told") (st := s_law_told) (c.defn 53 (d := d53) rfl) (c.fact 282 (f := e282) rfl)
  have k_law_told : PySem.W.keepIn K (.ref (A_f_law_told K)) = true := (c.fact 283 (f := e283) rfl)
  have a_law_cell : PySem.W.nsIn K mainGlobals "_law_cell" = some (some (.ref (A_f_law_cell K))) := of_decide_eq_true (c.fact 284 (f := e284) rfl)
  obtain ⟨oc_law_cell, od_law_cell, sl_law_cell, kV_law_cell, dc_law_cell, pm_law_cell, an_law_cell, cd_law_cell, ct_law_cell, l_law_cell, c_law_cell⟩ := fnV_ok (f := A_f_law_cell) (n := "_law_cell") (q := "_law_cell") (st := s_law_cell) (c.defn 54 (d := d54) rfl) (c.fact 285 (f := e285) rfl)
  have k_law_cell : PySem.W.keepIn K (.ref (A_f_law_cell K)) = true := (c.fact 286 (f := e286) rfl)
  have a_law_src : PySem.W.nsIn K mainGlobals "_law_src" = some (some (.ref (A_f_law_src K))) := of_decide_eq_true (c.fact 287 (f := e287) rfl)
  obtain ⟨oc_law_src, od_law_src, sl_law_src, kV_law_src, dc_law_src, pm_law_src, an_law_src, cd_law_src, ct_law_src, l_law_src, c_law_src⟩ := fnV_ok (f := A_f_law_src) (n := "_law_src") (q := "_law_src") (st := s_law_src) (c.defn 55 (d := d55) rfl) (c.fact 288 (f := e288) rfl)
  have k_law_src : PySem.W.keepIn K (.ref (A_f_law_src K)) = true := (c.fact 289 (f := e289) rfl)
  have a_law_pick : PySem.W.nsIn K mainGlobals "_law_pick" = some (some (.ref (A_f_law_pick K))) := of_decide_eq_true (c.fact 290 (f := e290) rfl)
  obtain ⟨oc_law_pick, od_law_pick, sl_law_pick, kV_law_pick, dc_law_pick, pm_law_pick, an_law_pick, cd_law_pick, ct_law_pick, l_law_pick, c_law_pick⟩ := fnV_ok (f := A_f_law_pick) (n := "_law_pick") (q := "_law_pick") (st := s_law_pick) (c.defn 56 (d := d56) rfl) (c.fact 291 (f := e291) rfl)
  have k_law_pick : PySem.W.keepIn K (.ref (A_f_law_pick K)) = true := (c.fact 292 (f := e292) rfl)
  have a_law_lowest : PySem.W.nsIn K mainGlobals "_law_lowest" = some (some (.ref (A_f_law_lowest K))) := of_decide_eq_true (c.fact 293 (f := e293) rfl)
  obtain ⟨oc_law_lowest, od_law_lowest, sl_law_lowest, kV_law_lowest, dc_law_lowest, pm_law_lowest, an_law_lowest, cd_law_lowest, ct_law_lowest, l_law_lowest, c_law_lowest⟩ := fnV_ok (f := A_f_law_lowest) (n := "_law_lowest") (q := "_law_lowest") (st := s_law_lowest) (c.defn 57 (d := d57) rfl) (c.fact 294 (f := e294) rfl)
  have k_law_lowest : PySem.W.keepIn K (.ref (A_f_law_lowest K)) = true := (c.fact 295 (f := e295) rfl)
  have a_law_frac : PySem.W.nsIn K mainGlobals "_law_frac" = some (some (.ref (A_f_law_frac K))) := of_decide_eq_true (c.fact 296 (f := e296) rfl)
  obtain ⟨oc_law_frac, od_law_frac, sl_law_frac, kV_law_frac, dc_law_frac, pm_law_frac, an_law_frac, cd_law_frac, ct_law_frac, l_law_frac, c_law_frac⟩ := fnV_ok (f := A_f_law_frac) (n := "_law_frac") (q := "_law_frac") (st := s_law_frac) (c.defn 58 (d := d58) rfl) (c.fact 297 (f := e297) rfl)
  have k_law_frac : PySem.W.keepIn K (.ref (A_f_law_frac K)) = true := (c.fact 298 (f := e298) rfl)
  have a_law_led : PySem.W.nsIn K mainGlobals "_law_led" = some (some (.ref (A_f_law_led K))) := of_decide_eq_true (c.fact 299 (f := e299) rfl)
  obtain ⟨oc_law_led, od_law_led, sl_law_led, kV_law_led, dc_law_led, pm_law_led, an_law_led, cd_law_led, ct_law_led, l_law_led, c_law_led⟩ := fnV_ok (f := A_f_law_led) (n := "_law_led") (q := "_law_led") (st := s_law_led) (c.defn 59 (d := d59) rfl) (c.fact 300 (f := e300) rfl)
  have k_law_led : PySem.W.keepIn K (.ref (A_f_law_led K)) = true := (c.fact 301 (f := e301) rfl)
  have a_law_is_load : PySem.W.nsIn K mainGlobals "_law_is_load" = some (some (.ref (A_f_law_is_load K))) := of_decide_eq_true (c.fact 302 (f := e302) rfl)
  obtain ⟨oc_law_is_load, od_law_is_load, sl_law_is_load, kV_law_is_load, dc_law_is_load, pm_law_is_load, an_law_is_load, cd_law_is_load, ct_law_is_load, l_law_is_load, c_law_is_load⟩ := fnV_ok (f := A_f_law_is_load) (n := "_law_is_load") (q := "_law_is_load") (st := s_law_is_load) (c.defn 60 (d := d60) rfl) (c.fact 303 (f := e303) rfl)
  have k_law_is_load : PySem.W.keepIn K (.ref (A_f_law_is_load K)) = true := (c.fact 304 (f := e304) rfl)
  have a_law_is_number : PySem.W.nsIn K mainGlobals "_law_is_number" = some (some (.ref (A_f_law_is_number K))) := of_decide_eq_true (c.fact 305 (f := e305) rfl)
  obtain ⟨oc_law_is_number, od_law_is_number, sl_law_is_number, kV_law_is_number, dc_law_is_number, pm_law_is_number, an_law_is_number, cd_law_is_number, ct_law_is_number, l_law_is_number, c_law_is_number⟩ := fnV_ok (f := A_f_law_is_number) (n := "_law_is_number") (q := "_law_is_number") (st := s_law_is_number) (c.defn 61 (d := d61) rfl) (c.fact 306 (f := e306) rfl)
  have k_law_is_number : PySem.W.keepIn K (.ref (A_f_law_is_number K)) = true := (c.fact 307 (f := e307) rfl)
  have a_law_anyrow : PySem.W.nsIn K mainGlobals "_law_anyrow" = some (some (.ref (A_f_law_anyrow K))) := of_decide_eq_true (c.fact 308 (f := e308) rfl)
  obtain ⟨oc_law_anyrow, od_law_anyrow, sl_law_anyrow, kV_law_anyrow, dc_law_anyrow, pm_law_anyrow, an_law_anyrow, cd_law_anyrow, ct_law_anyrow, l_law_anyrow, c_law_anyrow⟩ := fnV_ok (f := A_f_law_anyrow) (n := "_law_anyrow") (q := "_law_anyrow") (st := s_law_anyrow) (c.defn 62 (d := d62) rfl) (c.fact 309 (f := e309) rfl)
  have k_law_anyrow : PySem.W.keepIn K (.ref (A_f_law_anyrow K)) = true := (c.fact 310 (f := e310) rfl)
  have a_law_anyload : PySem.W.nsIn K mainGlobals "_law_anyload" = some (some (.ref (A_f_law_anyload K))) := of_decide_eq_true (c.fact 311 (f := e311) rfl)
  obtain ⟨oc_law_anyload, od_law_anyload, sl_law_anyload, kV_law_anyload, dc_law_anyload, pm_law_anyload, an_law_anyload, cd_law_anyload, ct_law_anyload, l_law_anyload, c_law_anyload⟩ := fnV_ok (f := A_f_law_anyload) (n := "_law_anyload") (q := "_law_anyload") (st := s_law_anyload) (c.defn 63 (d := d63) rfl) (c.fact 312 (f := e312) rfl)
  have k_law_anyload : PySem.W.keepIn K (.ref (A_f_law_anyload K)) = true := (c.fact 313 (f := e313) rfl)
  have a_law_sign : PySem.W.nsIn K mainGlobals "_law_sign" = some (some (.ref (A_f_law_sign K))) := of_decide_eq_true (c.fact 314 (f := e314) rfl)
  obtain ⟨oc_law_sign, od_law_sign, sl_law_sign, kV_law_sign, dc_law_sign, pm_law_sign, an_law_sign, cd_law_sign, ct_law_sign, l_law_sign, c_law_sign⟩ := fnV_ok (f := A_f_law_sign) (n := "_law_sign") (q := "_law_sign") (st := s_law_sign) (c.defn 64 (d := d64) rfl) (c.fact 315 (f := e315) rfl)
  have k_law_sign : PySem.W.keepIn K (.ref (A_f_law_sign K)) = true := (c.fact 316 (f := e316) rfl)
  have a_law_never : PySem.W.nsIn K mainGlobals "_law_never" = some (some (.ref (A_f_law_never K))) := of_decide_eq_true (c.fact 317 (f := e317) rfl)
  obtain ⟨oc_law_never, od_law_never, sl_law_never, kV_law_never, dc_law_never, pm_law_never, an_law_never, cd_law_never, ct_law_never, l_law_never, c_law_never⟩ := fnV_ok (f := A_f_law_never) (n := "_law_never") (q := "_law_never") (st := s_law_never) (c.defn 65 (d := d65) rfl) (c.fact 318 (f := e318) rfl)
  have k_law_never : PySem.W.keepIn K (.ref (A_f_law_never K)) = true := (c.fact 319 (f := e319) rfl)
  have a_law_isqrt : PySem.W.nsIn K mainGlobals "_law_isqrt" = some (some (.ref (A_f_law_isqrt K))) := of_decide_eq_true (c.fact 320 (f := e320) rfl)
  obtain ⟨oc_law_isqrt, od_law_isqrt, sl_law_isqrt, kV_law_isqrt, dc_law_isqrt, pm_law_isqrt, an_law_isqrt, cd_law_isqrt, ct_law_isqrt, l_law_isqrt, c_law_isqrt⟩ := fnV_ok (f := A_f_law_isqrt) (n := "_law_isqrt") (q := "_law_isqrt") (st := s_law_isqrt) (c.defn 66 (d := d66) rfl) (c.fact 321 (f := e321) rfl)
  have k_law_isqrt : PySem.W.keepIn K (.ref (A_f_law_isqrt K)) = true := (c.fact 322 (f := e322) rfl)
  have a_law_limit : PySem.W.nsIn K mainGlobals "_law_limit" = some (some (.ref (A_f_law_limit K))) := of_decide_eq_true (c.fact 323 (f := e323) rfl)
  obtain ⟨oc_law_limit, od_law_limit, sl_law_limit, kV_law_limit, dc_law_limit, pm_law_limit, an_law_limit, cd_law_limit, ct_law_limit, l_law_limit, c_law_limit⟩ := fnV_ok (f := A_f_law_limit) (n := "_law_limit") (q := "_law_limit") (st := s_law_limit) (c.defn 67 (d := d67) rfl) (c.fact 324 (f := e324) rfl)
  have k_law_limit : PySem.W.keepIn K (.ref (A_f_law_limit K)) = true := (c.fact 325 (f := e325) rfl)
  have a_law_even : PySem.W.nsIn K mainGlobals "_law_even" = some (some (.ref (A_f_law_even K))) := of_decide_eq_true (c.fact 326 (f := e326) rfl)
  obtain ⟨oc_law_even, od_law_even, sl_law_even, kV_law_even, dc_law_even, pm_law_even, an_law_even, cd_law_even, ct_law_even, l_law_even, c_law_even⟩ := fnV_ok (f := A_f_law_even) (n := "_law_even") (q := "_law_even") (st := s_law_even) (c.defn 68 (d := d68) rfl) (c.fact 327 (f := e327) rfl)
  have k_law_even : PySem.W.keepIn K (.ref (A_f_law_even K)) = true := (c.fact 328 (f := e328) rfl)
  have a_law_some_row : PySem.W.nsIn K mainGlobals "_law_some_row" = some (some (.ref (A_f_law_some_row K))) := of_decide_eq_true (c.fact 329 (f := e329) rfl)
  obtain ⟨oc_law_some_row, od_law_some_row, sl_law_some_row, kV_law_some_row, dc_law_some_row, pm_law_some_row, an_law_some_row, cd_law_some_row, ct_law_some_row, l_law_some_row, c_law_some_row⟩ := fnV_ok (f := A_f_law_some_row) (n := "_law_some_row") (q := "_law_some_row") (st := s_law_some_row) (c.defn 69 (d := d69) rfl) (c.fact 330 (f := e330) rfl)
  have k_law_some_row : PySem.W.keepIn K (.ref (A_f_law_some_row K)) = true := (c.fact 331 (f := e331) rfl)
  have a_law_near : PySem.W.nsIn K mainGlobals "_law_near" = some (some (.ref (A_f_law_near K))) := of_decide_eq_true (c.fact 332 (f := e332) rfl)
  obtain ⟨oc_law_near, od_law_near, sl_law_near, kV_law_near, dc_law_near, pm_law_near, an_law_near, cd_law_near, ct_law_near, l_law_near, c_law_near⟩ := fnV_ok (f := A_f_law_near) (n := "_law_near") (q := "_law_near") (st := s_law_near) (c.defn 70 (d := d70) rfl) (c.fact 333 (f := e333) rfl)
  have k_law_near : PySem.W.keepIn K (.ref (A_f_law_near K)) = true := (c.fact 334 (f := e334) rfl)
  have a_law_crossing : PySem.W.nsIn K mainGlobals "_law_crossing" = some (some (.ref (A_f_law_crossing K))) := of_decide_eq_true (c.fact 335 (f := e335) rfl)
  obtain ⟨oc_law_crossing, od_law_crossing, sl_law_crossing, kV_law_crossing, dc_law_crossing, pm_law_crossing, an_law_crossing, cd_law_crossing, ct_law_crossing, l_law_crossing, c_law_crossing⟩ := fnV_ok (f := A_f_law_crossing) (n := "_law_crossing") (q := "_law_crossing") (st := s_law_crossing) (c.defn 71 (d := d71) rfl) (c.fact 336 (f := e336) rfl)
  have k_law_crossing : PySem.W.keepIn K (.ref (A_f_law_crossing K)) = true := (c.fact 337 (f := e337) rfl)
  have a_law_text : PySem.W.nsIn K mainGlobals "_law_text" = some (some (.ref (A_f_law_text K))) := of_decide_eq_true (c.fact 338 (f := e338) rfl)
  obtain ⟨oc_law_text, od_law_text, sl_law_text, kV_law_text, dc_law_text, pm_law_text, an_law_text, cd_law_text, ct_law_text, l_law_text, c_law_text⟩ := fnV_ok (f := A_f_law_text) (n := "_law_text") (q := "_law_text") (st := s_law_text) (c.defn 72 (d := d72) rfl) (c.fact 339 (f := e339) rfl)
  have k_law_text : PySem.W.keepIn K (.ref (A_f_law_text K)) = true := (c.fact 340 (f := e340) rfl)
  have a_law_pat : PySem.W.nsIn K mainGlobals "_law_pat" = some (some (.ref (A_f_law_pat K))) := of_decide_eq_true (c.fact 341 (f := e341) rfl)
  obtain ⟨oc_law_pat, od_law_pat, sl_law_pat, kV_law_pat, dc_law_pat, pm_law_pat, an_law_pat, cd_law_pat, ct_law_pat, l_law_pat, c_law_pat⟩ := fnV_ok (f := A_f_law_pat) (n := "_law_pat") (q := "_law_pat") (st := s_law_pat) (c.defn 73 (d := d73) rfl) (c.fact 342 (f := e342) rfl)
  have k_law_pat : PySem.W.keepIn K (.ref (A_f_law_pat K)) = true := (c.fact 343 (f := e343) rfl)
  have a_law_never_right : PySem.W.nsIn K mainGlobals "_law_never_right" = some (some (.ref (A_f_law_never_right K))) := of_decide_eq_true (c.fact 344 (f := e344) rfl)
  obtain ⟨oc_law_never_right, od_law_never_right, sl_law_never_right, kV_law_never_right, dc_law_never_right, pm_law_never_right, an_law_never_right, cd_law_never_right, ct_law_never_right, l_law_never_right, c_law_never_right⟩ := fnV_ok (f := A_f_law_never_right) (n := "_law_never_right") (q := "_law_never_right") (st := s_law_never_right) (c.defn 74 (d := d74) rfl) (c.fact 345 (f := e345) rfl)
  have k_law_never_right : PySem.W.keepIn K (.ref (A_f_law_never_right K)) = true := (c.fact 346 (f := e346) rfl)
  have a_law_limit_right : PySem.W.nsIn K mainGlobals "_law_limit_right" = some (some (.ref (A_f_law_limit_right K))) := of_decide_eq_true (c.fact 347 (f := e347) rfl)
  obtain ⟨oc_law_limit_right, od_law_limit_right, sl_law_limit_right, kV_law_limit_right, dc_law_limit_right, pm_law_limit_right, an_law_limit_right, cd_law_limit_right, ct_law_limit_right, l_law_limit_right, c_law_limit_right⟩ := fnV_ok (f := A_f_law_limit_right) (n := "_law_limit_right") (q := "_law_limit_right") (st := s_law_limit_right) (c.defn 75 (d := d75) rfl) (c.fact 348 (f := e348) rfl)
  have k_law_limit_right : PySem.W.keepIn K (.ref (A_f_law_limit_right K)) = true := (c.fact 349 (f := e349) rfl)
  have a_law_refused_right : PySem.W.nsIn K mainGlobals "_law_refused_right" = some (some (.ref (A_f_law_refused_right K))) := of_decide_eq_true (c.fact 350 (f := e350) rfl)
  obtain ⟨oc_law_refused_right, od_law_refused_right, sl_law_refused_right, kV_law_refused_right, dc_law_refused_right, pm_law_refused_right, an_law_refused_right, cd_law_refused_right, ct_law_refused_right, l_law_refused_right, c_law_refused_right⟩ := fnV_ok (f := A_f_law_refused_right) (n := "_law_refused_right") (q := "_law_refused_right") (st := s_law_refused_right) (c.defn 76 (d := d76) rfl) (c.fact 351 (f := e351) rfl)
  have k_law_refused_right : PySem.W.keepIn K (.ref (A_f_law_refused_right K)) = true := (c.fact 352 (f := e352) rfl)
  have e_law_refused_right := cd_ok (f := A_f_law_refused_right) l_law_refused_right c_law_refused_right
  obtain ⟨ch_law_refused_right, kn_law_refused_right, tt_law_refused_right⟩ := c.tab 0 (p := A_f_law_refused_right) rfl
  obtain ⟨dC_law_refused_right, vC_law_refused_right, sC_law_refused_right, lc_law_refused_right, pl_law_refused_right⟩ := hd_ok ch_law_refused_right
  have a_law_right : PySem.W.nsIn K mainGlobals "_law_right" = some (some (.ref (A_f_law_right K))) := of_decide_eq_true (c.fact 353 (f := e353) rfl)
  obtain ⟨oc_law_right, od_law_right, sl_law_right, kV_law_right, dc_law_right, pm_law_right, an_law_right, cd_law_right, ct_law_right, l_law_right, c_law_right⟩ := fnV_ok (f := A_f_law_right) (n := "_law_right") (q := "_law_right") (st := s_law_right) (c.defn 77 (d := d77) rfl) (c.fact 354 (f := e354) rfl)
  have k_law_right : PySem.W.keepIn K (.ref (A_f_law_right K)) = true := (c.fact 355 (f := e355) rfl)
  have a_law : PySem.W.nsIn K mainGlobals "law" = some (some (.ref (A_f_law K))) := of_decide_eq_true (c.fact 356 (f := e356) rfl)
  obtain ⟨oc_law, od_law, sl_law, kV_law, dc_law, pm_law, an_law, cd_law, ct_law, l_law, c_law⟩ := fnV_ok (f := A_f_law) (n := "law") (q := "law") (st := s_law) (c.defn 78 (d := d78) rfl) (c.fact 357 (f := e357) rfl)
  have k_law : PySem.W.keepIn K (.ref (A_f_law K)) = true := (c.fact 358 (f := e358) rfl)
  have e_law := cd_ok (f := A_f_law) l_law c_law
  obtain ⟨ch_law, kn_law, tt_law⟩ := c.tab 1 (p := A_f_law) rfl
  obtain ⟨dC_law, vC_law, sC_law, lc_law, pl_law⟩ := hd_ok ch_law
  have ne_law_refused_right_law : (A_PA_law_refused_right K) ≠ (A_PA_law K) := of_decide_eq_true (c.fact 359 (f := e359) rfl)
  have ne_law_law_refused_right : (A_PA_law K) ≠ (A_PA_law_refused_right K) := of_decide_eq_true (c.fact 360 (f := e360) rfl)
  exact all_mk X G hmg aG aOh aJo aMS aKi aOp laOp aWo laWo aChk kr_chk z_len z_abs z_int z_bool z_tuple z_isinstance z_divmod z_max z_min z_range z_all z_repr z_str z_enumerate z_any z_list aGP aCe pgCe hdCe poCe saCe mkCe kcCe nCe_parts kt_E nf_E a_is_integer l_is_integer c_is_integer k_is_integer a_is_integer_within l_is_integer_within c_is_integer_within k_is_integer_within a_is_pair_of_integers l_is_pair_of_integers c_is_pair_of_integers k_is_pair_of_integers a_is_resistance l_is_resistance c_is_resistance k_is_resistance a_pair_of l_pair_of c_pair_of k_pair_of a_sign l_sign c_sign k_sign a_pair_order l_pair_order c_pair_order k_pair_order a_is_number l_is_number c_is_number k_is_number a_is_piece l_is_piece c_is_piece k_is_piece a_is_row l_is_row c_is_row k_is_row a_is_empty l_is_empty c_is_empty k_is_empty a_matrix_and_scale l_matrix_and_scale c_matrix_and_scale k_matrix_and_scale a_matrix_of l_matrix_of c_matrix_of k_matrix_of a_shown_before l_shown_before c_shown_before k_shown_before a_common_divisor l_common_divisor c_common_divisor k_common_divisor a_lowest_terms l_lowest_terms c_lowest_terms k_lowest_terms aPi aJ pgJ hdJ poJ saJ mkJ kcJ nJ_row caJ cmJ cn ct aC pgC hdC poC saC mkC kcC nC_row nC_matrix nC_scale nC_four caC cmC kt_J rdC gaC a_checked_row l_checked_row c_checked_row k_checked_row a_lowest_pair l_lowest_pair c_lowest_pair k_lowest_pair a_piece_text l_piece_text c_piece_text k_piece_text a_piece_with_text l_piece_with_text c_piece_with_text k_piece_with_text a_JoinedRow_init i_JoinedRow_init l_JoinedRow_init c_JoinedRow_init k_JoinedRow_init a_Pattern_init i_Pattern_init l_Pattern_init c_Pattern_init k_Pattern_init sa_Pattern_read sc_Pattern_read l_Pattern_read c_Pattern_read k_Pattern_read pa_Pattern_pieces pg_Pattern_pieces pt_Pattern_pieces pc_Pattern_pieces l_Pattern_pieces c_Pattern_pieces k_Pattern_pieces kt_CNoneType kt_Cbool kt_Cint kt_Cstr kt_Clist kt_Cdict kt_Ctuple a_difference l_difference c_difference k_difference a_sign_at l_sign_at c_sign_at k_sign_at a_sign_far_out l_sign_far_out c_sign_far_out k_sign_far_out a_sign_from l_sign_from c_sign_from k_sign_from a_sign_towards l_sign_towards c_sign_towards k_sign_towards a_limit_beside l_limit_beside c_limit_beside k_limit_beside a_never_below l_never_below c_never_below k_never_below a_square_root l_square_root c_square_root k_square_root a_under_root l_under_root c_under_root k_under_root a_equation_of_fraction l_equation_of_fraction c_equation_of_fraction k_equation_of_fraction a_simplest_equation l_simplest_equation c_simplest_equation k_simplest_equation a_Exact_init i_Exact_init l_Exact_init c_Exact_init k_Exact_init a_Exact_eq i_Exact_eq l_Exact_eq c_Exact_eq k_Exact_eq pa_Exact_equation pg_Exact_equation pt_Exact_equation pc_Exact_equation l_Exact_equation c_Exact_equation k_Exact_equation a_ladder_limit l_ladder_limit c_ladder_limit k_ladder_limit a_check_pattern l_check_pattern c_check_pattern k_check_pattern a_check_resistance l_check_resistance c_check_resistance k_check_resistance a_times l_times c_times k_times a_more_load l_more_load c_more_load k_more_load a_certify_never l_certify_never c_certify_never k_certify_never a_certify_limit l_certify_limit c_certify_limit k_certify_limit a_check_never l_check_never c_check_never k_check_never a_check_more l_check_more c_check_more k_check_more a_check_limit l_check_limit c_check_limit k_check_limit kr_kn kr_ko kr_kl kr_nd a_accepts l_accepts c_accepts k_accepts aX0 aX1 aX2 aX3 aX4 aX5 aX6 aX7 aX8 aX9 aX10 aX11 aX12 aX13 aX14 aX15 aX16 aX17 a_WrongValue_init i_WrongValue_init l_WrongValue_init c_WrongValue_init k_WrongValue_init rd_15 ga_15 fc_15 a_NotAPattern_init i_NotAPattern_init l_NotAPattern_init c_NotAPattern_init k_NotAPattern_init xb_0 ro_0 any_0 ty_0 no_0 a_InvalidResistance_init i_InvalidResistance_init l_InvalidResistance_init c_InvalidResistance_init k_InvalidResistance_init xb_2 ro_2 any_2 ty_2 no_2 a_law_error l_law_error c_law_error k_law_error a_law_told l_law_told c_law_told k_law_told a_law_cell l_law_cell c_law_cell k_law_cell a_law_src l_law_src c_law_src k_law_src a_law_pick l_law_pick c_law_pick k_law_pick a_law_lowest l_law_lowest c_law_lowest k_law_lowest a_law_frac l_law_frac c_law_frac k_law_frac a_law_led l_law_led c_law_led k_law_led a_law_is_load l_law_is_load c_law_is_load k_law_is_load a_law_is_number l_law_is_number c_law_is_number k_law_is_number a_law_anyrow l_law_anyrow c_law_anyrow k_law_anyrow a_law_anyload l_law_anyload c_law_anyload k_law_anyload a_law_sign l_law_sign c_law_sign k_law_sign a_law_never l_law_never c_law_never k_law_never a_law_isqrt l_law_isqrt c_law_isqrt k_law_isqrt a_law_limit l_law_limit c_law_limit k_law_limit a_law_even l_law_even c_law_even k_law_even a_law_some_row l_law_some_row c_law_some_row k_law_some_row a_law_near l_law_near c_law_near k_law_near a_law_crossing l_law_crossing c_law_crossing k_law_crossing a_law_text l_law_text c_law_text k_law_text a_law_pat l_law_pat c_law_pat k_law_pat a_law_never_right l_law_never_right c_law_never_right k_law_never_right a_law_limit_right l_law_limit_right c_law_limit_right k_law_limit_right a_law_refused_right l_law_refused_right c_law_refused_right k_law_refused_right e_law_refused_right lc_law_refused_right pl_law_refused_right ch_law_refused_right tt_law_refused_right kn_law_refused_right a_law_right l_law_right c_law_right k_law_right a_law l_law c_law k_law e_law lc_law pl_law ch_law tt_law kn_law ne_law_refused_right_law ne_law_law_refused_right
end RL
open PySem PySem.W PySem.Calls PyProof.Rows
set_option maxHeartbeats 0 in
theorem PySem.Challenge.cw_rungladders_k78_patterns_and_limits_cert_holds : PySem.Challenge.rw_rungladders_k78_patterns_and_limits_cert.Holds := by
  w_on; o_law
  refine HandSHeadRun.head_any (r := OpenLaw.row PySem.Challenge.rw_rungladders_k78_patterns_and_limits_cert) (q := view (OpenLaw.row PySem.Challenge.rw_rungladders_k78_patterns_and_limits_cert).prog [131]) (H := RL.hkH) (ob := RL.obH) (M := 12000) (loose := RL.loL) (d := HandSHeadRun.topDef (OpenLaw.row PySem.Challenge.rw_rungladders_k78_patterns_and_limits_cert).prog 131) (kwd := []) RL.obH_eq
    (by kernel_rfl) (fun s => by kernel_rfl) RL.runH (by kernel_rfl) (by kernel_rfl) (by kernel_rfl) (by rfl) (by first | assumption | decide +kernel) (by decide +kernel) ⟨rfl, rfl, rfl, rfl, rfl, by decide +kernel⟩ ?hw ?hc
  case hw => w_witness2
  case hc =>
    refine RL.walk_ofZ (l := PySem.Challenge.rw_rungladders_k78_patterns_and_limits_cert) (n := 63) (k := 14) (x := "_law_script") rfl (by decide) (by kernel_rfl) ⟨rfl, by decide, by decide⟩ ?F
    intro w mg fa h Y G hmg0
    obtain ⟨K, KX, c⟩ := Y
    have hmg : mg ("law" : PySem.Str) = some (.ref fa) := by
      have e : (HandSHeadRun.topDef (OpenLaw.row PySem.Challenge.rw_rungladders_k78_patterns_and_limits_cert).prog 131).name = ("law" : PySem.Str) := by kernel_rfl
      rw [← e]
      exact hmg0
    exact ⟨K, KX, RL.factsH KX G hmg c⟩

