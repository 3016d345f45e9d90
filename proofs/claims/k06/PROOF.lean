import PyProof.Rows.All
import Wide.All
import OpenK.AllK
import Wide.FinOn
import HandS.ForMost
import HandS.IsInst
import HandS.Wide
import HandS.WideBits
import HandS.MakeKwOnly
import HandS.SlotsOwn
import PyProof.ReprRoads
import HandS.Property
import HandS.FStr
import HandS.RaiseMore
import KE.KCallOwn
import PyProof.InstNe
import PyProof.ReprLen
import PyProof.Rows.ReprOcc
import HandS.Star
import HandS.ClsMeth
import HandS.Style
import HandS.TupAny
import HandS.Deep
import KE.KRevSl
import KE.GoesMore
import HandS.Iter
import KE.KOpsOwn
import HandS.Codes
import HandS.Exc
import KE.KExcInit
import HandS.ExcInit
import KE.KExcIs
import PyProof.CallFns
import PyProof.StrLawsRepr
import PyProof.EqLayable
import HandS.Dict
import HandS.HotCalls
import HandS.ExcInitHot
import HandS.Lambda
import HandS.Comp
import KE.KLam
import HandS.OwnEq
import PyProof.EqKinds
import HandS.Small
import HandS.GenYield
import HandS.GenList
import PyProof.LongRange
import HandS.Base
import KE.RegKIsAll
import PySem.Challenge.RW_rungladders_k06_sets_of_numbers_made
set_option Elab.async false
set_option linter.all false
set_option maxRecDepth 100000
/-! Defs that are called where no repr is under way: repr of lists and tuples within them; == by an own __eq__. -/
namespace RL
open PySem L2 PySem.Spec PyProof.Rows
structure FnG (P : Program) (w : World) (K : PySem.W.Frag) (mg : Str → Option Value) (base : Heap) (k : Nat) (f : Addr) (fd : FuncData) (ps : List Str) (sp : Sp) : Prop where
  len : ∀ vs H Q E, sp vs H Q E → vs.length = ps.length
  run : ∀ (A : Around) (outer : List Env) (s : Shared) (H : Hp) (args : Args) (us : List Value) (vs : List V) (Q : VK) (E : XK), A.guards = some [] → Room k A → Env0 P w K mg base A outer s H → BindsTo s fd args (ps.zip us) → Vals vs us → sp vs H Q E →
    codeAny (model P w) A (.call (.ref f) args) (CR CX0 outer P w H s Q E) s
section
variable {P : Program} {w : World} {K : PySem.W.Frag} {mg : Str → Option Value} {base : Heap}
theorem okG {x qual : Str} {st : Stmt} {f : Addr} {fd : FuncData} {N ps : List Str} {k : Nat} {sp : Sp} (F : Fun K x qual st f fd) (S : FnScope N ps (defScope st)) (len : ∀ vs H Q E, sp vs H Q E → vs.length = ps.length)
    (bd : ∀ (cdv : Value) (A : Around) (outer : List Env) (s : Shared) (H : Hp) (vs : List V) (Q : VK) (E : XK), A.guards = some [] → Room k (A.deeper (envOfC qual (defScope st) s.heap.objs.size f cdv)) → sp vs H Q E →
      ∃ t, PSs (cxOf CX0 P w K mg base N qual (defScope st) f cdv A outer s H E).nox (defBody st) t ∧ t { nx := fun _ H' => Q .non H', rt := Q } (start N vs) H) : FnG P w K mg base (k + 1) f fd ps sp := by
  obtain ⟨oc, od, kV, doc, pm, an, cdv, ct, osl, rfl, lk, hcd⟩ := F.ex
  refine ⟨len, fun A outer s H args us vs Q E hg hr e0 hb r hsp => ?_⟩
  have KX : K.In s.heap := e0.mod.kin.keeps fun b o e => (e0.bs b o e).1
  have lim := e0.mod.nolimit.keeps fun b o e => (e0.bs b o e).1
  refine codeAny_call_function hr.depth (KX _ _ lk) rfl S.co S.gen rfl (PySem.W.codeRec_of KX hcd) (hb _ _ _ _ (wpAny_newFunctionEnv_cells S.kind (fun ⟨n, v⟩ hy => ?_) fun env he s1 x => ?_))
  · exact (S.par n (List.of_mem_zip hy).1).imp id fun q => ⟨q, PySem.W.cellsFrom_some _ _ _ (.inl q)⟩
  · subst he
    obtain ⟨t, ht, hq⟩ := bd cdv A outer s H vs Q E hg (hr.deeper _) hsp
    have I : Inv (cxOf CX0 P w K mg base N qual (defScope st) f cdv A outer s H E) [] (start N vs) H s1 := inv_start S hr.hd e0 (len _ _ _ _ hsp) r x
    refine ⟨lim.keeps x.toInCall.keep, codeAny_func (wpAny_mono (ht.nox.run [] s1 _ H _ I hq) (fun fl s' hs => ?_) fun _ _ z => z)⟩
    cases fl with
    | ret u =>
      obtain ⟨v, σ', H', J, rv, q⟩ := hs
      exact ⟨v, H', J.os, J.bare, J.base, J.hok, rv, q⟩
    | next =>
      obtain ⟨σ', H', J, q⟩ := hs
      exact ⟨V.non, H', J.os, J.bare, J.base, J.hok, rfl, q⟩
    | brk => exact hs.elim fun _ z => z.elim fun _ y => False.elim y.2
    | cont => exact hs.elim fun _ z => z.elim fun _ y => False.elim y.2
end
structure DfG (P : Program) (w : World) (K : PySem.W.Frag) (mg : Str → Option Value) (base : Heap) (k : Nat) (x : Str) (ps : List Str) (sp : Sp) : Prop where
  ex : ∃ (f : Addr) (fd : FuncData), FnG P w K mg base k f fd ps sp ∧ mg x = some (.ref f) ∧ PySem.W.keepIn K (.ref f) = true ∧ Binds K fd ps []
section
variable {X : Cx} {k : Nat} {ps : List Str} {sp : Sp} {x : Str} {p pos : Pos} {e : Expr} {es : List Expr} {t : TA}
theorem pe_dfG (D : DfG X.prog X.w X.K X.mg X.base k x ps sp) (hG : X.A.guards = some []) (hr : Room k X.A) (hg : Gl X x)
    (ha : PA X (e :: es) t) (hdb : (x == ("__debug__" : Str)) = false := by decide) (he : starEach (e :: es) X.env = (false, eval e X.env) :: starEach es X.env := by rfl) (hpl : (backTo pos (starEach es X.env)).any (·.1) = false := by rfl) :
    PE X (.Call (.Name x p) (e :: es) [] pos) (tCall sp [] E0 t) := by
  obtain ⟨f, fd, F, hm, hk, hb⟩ := D.ex
  refine ⟨fun pins s σ H Q I h => wpAny_Call_Name_kw (ld_glob I hg hm (PySem.W.callWith_K (h₀ := X.base) I.ok.mod.kin hk (thn (ha.run pos pins s σ H _ I h) fun us s1 ⟨vs, H1, I1, r, q⟩ => ⟨I1.kIn, ?_⟩) he hpl) hdb)⟩
  have q0 : sp vs H1 Q E0 := by
    have q1 : sp (vs ++ []) H1 Q E0 := q
    rw [List.append_nil] at q1
    exact q1
  have hl : (us ++ []).length = ps.length := by
    rw [List.append_nil, ← r.length]
    exact F.len _ _ _ _ q0
  have hbb := hb s1 us I1.kIn hl
  rw [List.append_nil] at hbb
  refine wpAny_call (codeAny_mono (F.run X.A X.stack s1 H1 ⟨us, []⟩ us vs Q E0 hG hr I1.env0 hbb r q0) fun z s' hq => ?_)
  cases z with
  | error e => exact hq.elim
  | ok fl =>
    cases fl with
    | ret u => exact I1.after hq
    | next => exact hq.elim
    | brk => exact hq.elim
    | cont => exact hq.elim
/-! ### repr of a list or tuple of plain things -/
def rRepr (K : PySem.W.Frag) : List V → Hp → VK → Prop := fun vs H Q => ∃ (a : Addr) (d : PyData), vs = [.ref a] ∧ Dp K H (.ref a) d ∧ d.showable = true ∧ d.hasDict = false ∧ d.depth ≤ 40 ∧ d.shown.length ≤ sizeLine ∧ Q (.str d.shown) H
theorem cr_repr (hG : X.A.guards = some []) (hu : X.A.units + 64 < cLine) : CallR X (.builtin "repr") (rRepr X.K) := by
  intro pins s σ H vs us Q I r h
  obtain ⟨a, d, rfl, hd, h1, h2, h3, h4, q⟩ := h
  obtain ⟨as, rd⟩ := Dp.reads I d _ (.ref a) hd rfl
  rw [Vals.ref1 r]
  refine repr_of_reads' (h₀ := s.heap) rd h1 (fun z => by rw [h2] at z; cases z) hG (by omega) (fun _ _ z => z) (fun h' u tk hk => ?_) h4
  exact ⟨.str d.shown, H, I.kept hk, ⟨_, rfl⟩, q⟩
/-! ### == by an own __eq__ -/
def rEqOwn (K : PySem.W.Frag) (C : Addr) (sp : Sp) : R2 := fun x y H Q => ∃ a dx fs ty, x = .ref a ∧ H a = some (.ins C dx fs) ∧ TyX K H y ty ∧ PySem.W.notFirst K C ty = true ∧ sp [x, y] H Q E0
theorem op_eqOwn {C g : Addr} {fd : FuncData} (hs : PySem.W.findIn X.K (.ref C) "__eq__" = some (some (.ref g))) (hf : PySem.W.isFn X.K (.ref g) = true) (F : FnOk X.prog X.w X.K X.mg X.base CX0 k g fd ps sp) (hb : Binds X.K fd ps []) (hr : Room k X.A) :
    OpR X (compareOp .Eq) (rEqOwn X.K C sp) := by
  intro pins s σ H x y v u Q I rx ry h
  obtain ⟨a, dx, fs, ty, rfl, ha, hy, hn, q⟩ := h
  cases (show v = Value.ref a from rx)
  obtain ⟨mA, O, _⟩ := ins_get I.hok ha
  obtain ⟨od, J, _⟩ := O.look
  obtain ⟨PH, Z, ph, _⟩ := kit_of I ry hy
  obtain ⟨m, hF⟩ := I.fr
  show wpAny _ _ (richCompare .Eq (.ref a) u) _ _ _
  refine PySem.W.cmp_K (op := .Eq) hr.units0 hF I.ok.mod.kin J (Z.ty _ _ I.kIn ph) hn hs hf ?_
  have q0 : sp ([.ref a, y] ++ []) H Q E0 := q
  refine wpAny_mono (run_fn (us := [.ref a, u]) (vs := [.ref a, y]) F hr hb .nil pass0 I (.cons rfl (.cons ry .nil)) q0) (fun w s' z => ?_) fun _ _ z => z
  obtain ⟨z', H', I', rz, qz⟩ := z
  exact SlX.cmpback rz ⟨z', H', I', rz, qz⟩
end
end RL

/-! The end of a law whose own def is promised where no repr is under way. -/
namespace RL
open PySem L2 PySem.Spec PyProof.Rows
/-- the call, once the abstract heap is chosen -/
theorem law_runG {P : Program} {w : World} {K : PySem.W.Frag} {mg mb : Str → Option Value} {k : Nat} {fa a : Addr} {fd : FuncData} {x : Str} {sp : Sp} {s1 : Shared} {vs : List Value} {H : Hp}
    (KX : K.In s1.heap) (hns : s1.heap.Ns mainGlobals mg) (hb : s1.heap.Ns builtinsNs mb) (hbb : ∀ x : Str, x ≠ "__name__" → mb x = bootBuiltins x) (hlim : s1.heap.NoLimit) (hgen : s1.gens = #[])
    (ha : s1.heap.get? a = some { cls := .type "list", data := .seq vs.toArray }) (hr : Room k callerA)
    (F : ∀ base : Heap, K.In base → base.Ns mainGlobals mg → FnG P w K mg base k fa fd [x] sp) (hbind : ∀ (s : Shared) (u : Value), BindsTo s fd ⟨[u], []⟩ [(x, u)])
    (hO : Only H) (hsp : sp [.ref a] H (fun v _ => v = .bl true) fun _ _ _ => False) (hok : HOk P w H s1.heap) (hA : ∀ b u, H b = some u → b = a ∧ K.lookup a = none) :
    codeAny (model P w) callerA (.call (.ref fa) ⟨[.ref a], []⟩) (fun r s' => r = .ok (.ret (.bool true)) ∧ OldK s1.heap s'.heap ∧ s'.os = s1.os ∧ AllBare s'.gens) s1 := by
  have free : ∀ {b : Addr} {o : Obj}, s1.heap.get? b = some o → (b = a → o.data ≠ .seq vs.toArray) → H b = none := fun {b o} e n => by
    cases q : H b with
    | none => rfl
    | some u =>
      obtain ⟨rfl, _⟩ := hA b u q
      rw [ha] at e
      cases e
      exact absurd rfl (n rfl)
  have ns1 : ∀ {b : Addr} {m : Str → Option Value}, s1.heap.Ns b m → (hidT s1.heap H).Ns b m := fun {b m} ⟨o, es, ep, e, d, r⟩ => ⟨o, es, ep, hidT_get e (free e fun _ z => by rw [d] at z; cases z), d, r⟩
  have kin : K.In (hidT s1.heap H) := fun b o e => hidT_get (KX b o e) (by
    cases q : H b with
    | none => rfl
    | some u =>
      obtain ⟨rfl, z⟩ := hA b u q
      rw [z] at e
      cases e)
  obtain ⟨mc, c1, c2⟩ := hlim
  have e0 : Env0 P w K mg (hidT s1.heap H) callerA [] s1 H :=
    { frames := rfl, mod := ⟨kin, ns1 hns, ⟨mb, ns1 hb, hbb⟩, ⟨mc, ns1 c1, c2⟩⟩, bs := fun b o e => of_hidT e, bsz := Nat.le_of_eq (hidT_size _ _), funs := trivial, frf := fun b z => absurd (show b ∈ ([] : List Addr) from z) (by simp), hok := hok, bare := .of_eq hgen }
  refine codeAny_mono ((F _ kin (ns1 hns)).run callerA [] s1 H ⟨[.ref a], []⟩ [.ref a] [.ref a] _ _ rfl hr e0 (hbind s1 (.ref a)) (.cons rfl .nil) hsp) fun r s' h => ?_
  match r, h with
  | .ok (.ret u), ⟨v, H', os, bare, un, hok', r', q⟩ =>
    cases (show v = V.bl true from q)
    cases (show u = Value.bool true from r')
    refine ⟨rfl, OldK.of_keep fun b o e => ?_, os, bare⟩
    cases q2 : H b with
    | none => exact un.keep b o e q2 (fun z => absurd (show b ∈ ([] : List Addr) from z) (by simp)) (by simp)
    | some u =>
      rcases hO b with z | ⟨ob, xs, z⟩
      · rw [q2] at z
        cases z
      · obtain ⟨e1, _⟩ := hok b _ z
        obtain ⟨e2, _⟩ := hok' b _ (un.frzs b ob _ z)
        rw [e] at e1
        cases e1
        exact e2
theorem walk_ofG {l : PySem.W.OpenLaw} {n k : Nat} {q : Program} {loose : List Str} {XP : (Str → Option Value) → Heap → Prop} {YP : World → Heap → Prop} {d : DefRec} {K : Params → PySem.W.Frag} {sp : World → Sp} {x : Str}
    (hn : l.most = some n) (hn2 : n ≤ sizeLine) (hdf : d.params.defaults = []) (hr : Room k callerA) (hY : ∀ (w : World) (h : Heap), YP w h → (K w.params).In h)
    (F : ∀ (w : World) (mg : Str → Option Value) (fa : Addr) (h : Heap), (K w.params).In h → h.Ns mainGlobals mg → mg d.name = some (.ref fa) →
      ∃ fd : FuncData, (∀ (s : Shared) (u : Value), BindsTo s fd ⟨[u], []⟩ [(x, u)]) ∧ ∀ base : Heap, (K w.params).In base → base.Ns mainGlobals mg → FnG l.prog w (K w.params) mg base k fa fd [x] (sp w))
    (hsp : ∀ (w : World) (H : Hp) (a : Addr) (ns : List Int), ns.length ≤ n → Only H → SqL (K w.params) H a (ns.map V.int) → sp w [.ref a] H (fun v _ => v = .bl true) fun _ _ _ => False) :
    PySem.W.WalkO q loose XP YP l.row.toRowW d [] (fun f vs => PySem.call f vs) := by
  refine Att.attach_call hn hdf fun w s0 s1 mg mb fa o pm cd doc a vs ns G Y ho hd hcd hmg hobj hints hlen hgen => ?_
  have KX := hY w _ Y
  obtain ⟨fd, hb, hF⟩ := F w mg fa _ KX G.T.g hmg
  have rv := vals_ints hints
  have hl : ns.length ≤ sizeLine := Nat.le_trans hlen hn2
  have lenV := hints.length
  cases hk : (K w.params).lookup a with
  | some ob =>
    have e := KX a ob hk
    rw [hobj] at e
    cases e
    refine law_runG (H := fun _ => none) KX G.T.g G.T.b G.T.builtins G.T.nolimit hgen hobj hr hF hb (fun _ => .inl rfl) (hsp w _ a ns hlen (fun _ => .inl rfl) (.inr ⟨_, vs.toArray, _, hk, rfl, rfl, rfl, by rw [List.size_toArray, lenV]; exact hl, by simpa using rv⟩)) (fun b u z => ?_) fun b u z => ?_
    · cases (show (none : Option HO) = some u from z)
    · cases (show (none : Option HO) = some u from z)
  | none =>
    have only : Only (fun b => if b = a then some (HO.frz { cls := .type "list", data := .seq vs.toArray } (.lst (ns.map V.int))) else none) := fun b => by
      by_cases z : b = a
      · exact .inr ⟨_, _, if_pos z⟩
      · exact .inl (if_neg z)
    have at_ : ∀ {b : Addr} {u : HO}, (if b = a then some (HO.frz { cls := .type "list", data := .seq vs.toArray } (.lst (ns.map V.int))) else none) = some u → b = a ∧ u = HO.frz { cls := .type "list", data := .seq vs.toArray } (.lst (ns.map V.int)) := fun {b u} z => by
      by_cases y : b = a
      · rw [if_pos y] at z
        exact ⟨y, (Option.some.inj z).symm⟩
      · rw [if_neg y] at z
        cases z
    refine law_runG (H := fun b => if b = a then some (HO.frz { cls := .type "list", data := .seq vs.toArray } (.lst (ns.map V.int))) else none) KX G.T.g G.T.b G.T.builtins G.T.nolimit hgen hobj hr hF hb only (hsp w _ a ns hlen only (.inl (.inr ⟨_, if_pos rfl⟩))) (fun b u z => ?_) fun b u z => ⟨(at_ z).1, hk⟩
    obtain ⟨rfl, rfl⟩ := at_ z
    exact ⟨hobj, by rw [List.length_map]; exact hl, vs, _, rv, hobj⟩
end RL

/-! != of an own class with __eq__ alone; str and repr of its instances; a new one by keywords. -/
namespace RL
open PySem L2 PySem.Spec PyProof.Rows PySem.W Builtin
section
variable {prog : Program} {w : World} {A : Around} {E : Value → Shared → Prop} {s : Shared} {K : Frag} {x C L f : Addr} {h₀ : Heap} {m : Str → Option Value} {ox : Obj} {od : Option Obj} {b tb : Value}
/-- object.__ne__ asks the own __eq__ -/
theorem ne_entry {Q : Fin → Shared → Prop} (X : K.In s.heap) (I : InstAt s.heap x ox C od) (hs : findIn K (.ref C) "__eq__" = some (some (.ref f))) (hf : isFn K (.ref f) = true) (hu : A.units < cLine)
    (hc : wpAny (model prog w) A (call (.ref f) [.ref x, b]) (fun v s' => ∃ t, v = .bool t ∧ Q (.done (.ret (.bool (!t)))) s') E s) : wpAny (model prog w) A (Builtin.«object.__ne__» ⟨[.ref x, b], []⟩) Q E s := by
  unfold Builtin.«object.__ne__»
  repeat (first
    | with_reducible refine wpAny_cRoomFor hu ?_
    | (refine wpAny_bind (m := callSpecialIfBound? (.ref x) (Str.ofString "__eq__") [b])
        (ifBound_K X I hs hf (wpAny_mono hc (fun r s' hr => by
          obtain ⟨t, rfl, hq⟩ := hr
          repeat (first | exact hq | exact wpAny_pure hq | exact wpAny_truthy_bool hq | (refine wpAny_bind (m := truthy (.bool _)) (wpAny_truthy_bool ?_)) | wp_step)) fun _ _ z => z)))
    | wp_step)
theorem ne_try {Q : Value → Shared → Prop} (X : K.In s.heap) (I : InstAt s.heap x ox C od) (hne : findIn K (.ref C) "__ne__" = some (some (.builtin "object.__ne__"))) (hsub : subIn K (.ref C) (.type "object") = some true) (hs : findIn K (.ref C) "__eq__" = some (some (.ref f))) (hf : isFn K (.ref f) = true) (hu : A.units + 1 < cLine)
    (hc : wpAny (model prog w) A.in1 (call (.ref f) [.ref x, b]) (fun v s' => ∃ t, v = .bool t ∧ Q (.bool (!t)) s') E s) : wpAny (model prog w) A (tryCompare (.ref x) "__ne__" b) (fun r s' => ∃ v, r = some v ∧ Q v s') E s := by
  unfold tryCompare
  have go : wpAny (model prog w) A (call (.builtin "object.__ne__") [.ref x, b]) (fun v s' => ∃ t, v = .bool t ∧ Q v s') E s := by
    refine wpAny_call (codeAny_call_builtin PySem.F.cmp_object.ne.plain PySem.F.cmpEntry_ne (@check_slot (model prog w) _ _ s "object.__ne__" "object" "__ne__" (.ref x) [b] [] _ PySem.F.cmpKind_ne PySem.F.cmpSplit_ne (I.type.andThen (looks_subIn X hsub)) (PySem.F.cmpArgs_ne _ _) ?_))
    exact ne_entry (A := A.in1) X I hs hf hu (wpAny_mono hc (fun v s' hv => by obtain ⟨t, rfl, q⟩ := hv; exact ⟨t, rfl, ⟨_, rfl, q⟩⟩) fun _ _ z => z)
  have bd : wpAny (model prog w) A (callSpecialIfBound? (.ref x) "__ne__" [b]) (fun r s' => ∃ t, r = some (.bool t) ∧ Q (.bool t) s') E s := by
    simp only [callSpecialIfBound?, bindSpecialIfBound?]
    refine wpAny_holding (wpAny_bind (wpAny_bind (wpAny_bind (I.type.here ((looks_findIn X hne).here ?_)))))
    refine wpAny_bind (wpAny_askSetting (wpAny_ite ?_))
    have fin : wpAny (model prog w) A (call (.builtin "object.__ne__") ([.ref x] ++ [b]) >>= fun v => pure (some v)) (fun r s' => ∃ t, r = some (.bool t) ∧ Q (.bool t) s') E s := wpAny_bind (wpAny_mono go (fun v s' ⟨t, e, q⟩ => wpAny_pure ⟨t, by rw [e], e ▸ q⟩) fun _ _ z => z)
    have e := PySem.F.cmp_object.ne.bind (.ref x)
    split
    · exact wpAny_bind (wpAny_of_eq e (wpAny_pure (by exact fin)))
    · exact wpAny_tryCatch (wpAny_bind (wpAny_of_eq e (wpAny_pure (by exact fin))))
  refine wpAny_bind (wpAny_mono bd (fun r s' hr => ?_) fun _ _ z => z)
  obtain ⟨t, rfl, q⟩ := hr
  exact wpAny_pure ⟨_, rfl, q⟩
theorem ne_K {Q : Value → Shared → Prop} (hu : A.units + 1 < cLine) (F : Fr h₀ L s.heap m) (X₀ : K.In h₀) (I : InstAt s.heap x ox C od) (hb : Looks (model prog w) s.heap (typeOf b) tb) (hn : notFirst K C tb = true)
    (hne : findIn K (.ref C) "__ne__" = some (some (.builtin "object.__ne__"))) (hsub : subIn K (.ref C) (.type "object") = some true) (hs : findIn K (.ref C) "__eq__" = some (some (.ref f))) (hf : isFn K (.ref f) = true)
    (h : wpAny (model prog w) A.in1 (call (.ref f) [.ref x, b]) (fun v s' => ∃ t, v = .bool t ∧ Q (.bool (!t)) s') E s) : wpAny (model prog w) A (richCompare .NotEq (.ref x) b) Q E s := by
  have X := X₀.keeps F.keep
  have one := ne_try (A := A) (b := b) (Q := Q) X I hne hsub hs hf hu h
  have last : ∀ (r : Option Value) (s' : Shared), (∃ v, r = some v ∧ Q v s') → ∃ v, r = some v ∧ Q v s' := fun _ _ z => z
  unfold richCompare
  simp only [oneThing_ref]
  refine wpAny_holding (wpAny_bind (wpAny_cRoomFor (Nat.lt_of_succ_lt hu) (wpAny_bind (I.type.here (wpAny_bind (hb.here ?_))))))
  split
  · rename_i q
    have e : subIn K tb (.ref C) = some false := (Bool.or_eq_true_iff.mp hn).elim (fun z => by rw [beq_iff_eq.mp z] at q; simp at q) beq_iff_eq.mp
    refine wpAny_bind ((looks_subIn X e).here ?_)
    simp only [Bool.false_eq_true, if_false]
    exact wpAny_bind (wpAny_mono one (fun r s' ⟨v, e, hq⟩ => by subst e; exact wpAny_pure hq) fun _ _ z => z)
  · refine wpAny_bind (wpAny_pure ?_)
    simp only [Bool.false_eq_true, if_false]
    exact wpAny_bind (wpAny_mono one (fun r s' ⟨v, e, hq⟩ => by subst e; exact wpAny_pure hq) fun _ _ z => z)
end
section
variable {X : Cx} {k : Nat} {ps : List Str} {sp : Sp} {C g : Addr} {fd : FuncData}
def rNeOwn (K : PySem.W.Frag) (C : Addr) (sp : Sp) : R2 := fun x y H Q => ∃ a dx fs ty, x = .ref a ∧ H a = some (.ins C dx fs) ∧ TyX K H y ty ∧ PySem.W.notFirst K C ty = true ∧ sp [x, y] H (fun v H' => ∃ t, v = .bl t ∧ Q (.bl (!t)) H') E0
theorem op_neOwn (hne : PySem.W.findIn X.K (.ref C) "__ne__" = some (some (.builtin "object.__ne__"))) (hsub : PySem.W.subIn X.K (.ref C) (.type "object") = some true) (hs : PySem.W.findIn X.K (.ref C) "__eq__" = some (some (.ref g))) (hf : PySem.W.isFn X.K (.ref g) = true)
    (F : FnOk X.prog X.w X.K X.mg X.base CX0 k g fd ps sp) (hb : Binds X.K fd ps []) (hr : Room (k + 1) X.A) : OpR X (compareOp .NotEq) (rNeOwn X.K C sp) := by
  intro pins s σ H x y v u Q I rx ry h
  obtain ⟨a, dx, fs, ty, rfl, ha, hy, hn, q⟩ := h
  cases (show v = Value.ref a from rx)
  obtain ⟨mA, O, _⟩ := ins_get I.hok ha
  obtain ⟨od, J, _⟩ := O.look
  obtain ⟨PH, Z, ph, _⟩ := kit_of I ry hy
  obtain ⟨m, hF⟩ := I.fr
  show wpAny _ _ (richCompare .NotEq (.ref a) u) _ _ _
  refine ne_K (hu_of hr) hF I.ok.mod.kin J (Z.ty _ _ I.kIn ph) hn hne hsub hs hf ?_
  have hl : ([Value.ref a, u] ++ []).length = ps.length := F.len _ _ _ _ q
  have hbb := hb s [.ref a, u] I.kIn hl
  refine wpAny_call (codeAny_mono (F.run X.A.in1 X.stack s H ⟨[.ref a, u], []⟩ [.ref a, u] [.ref a, y] _ E0 hr.in1 I.env0.in1 hbb (.cons rfl (.cons ry .nil)) q) fun z s' hq => ?_)
  match z, hq with
  | .ok (.ret w'), hq =>
    obtain ⟨v', H', I', rv, t, e, qz⟩ := I.after hq
    subst e
    cases (show w' = Value.bool t from rv)
    exact ⟨t, rfl, .bl (!t), H', I', rfl, qz⟩
/-! ### str and repr of an instance -/
def rTextOwn (C : Addr) (sp : Sp) : List V → Hp → VK → Prop := fun vs H Q => ∃ a dx fs, vs = [.ref a] ∧ H a = some (.ins C dx fs) ∧ sp [.ref a] H (fun z H' => ∃ y : Str, z = .str y ∧ Q z H') E0
theorem cr_reprOwn (hs : PySem.W.findIn X.K (.ref C) "__repr__" = some (some (.ref g))) (hf : PySem.W.isFn X.K (.ref g) = true) (F : FnOk X.prog X.w X.K X.mg X.base CX0 k g fd ps sp) (hb : Binds X.K fd ps []) (hr : Room (k + 1) X.A) : CallR X (.builtin "repr") (rTextOwn C sp) := by
  intro pins s σ H vs us Q I r h
  obtain ⟨a, dx, fs, rfl, ha, q⟩ := h
  rw [Vals.ref1 r]
  obtain ⟨mA, O, _⟩ := ins_get I.hok ha
  obtain ⟨od, J, _⟩ := O.look
  obtain ⟨m, hF⟩ := I.fr
  refine PySem.W.repr_K (hu_of hr) hF I.ok.mod.kin J hs hf ?_
  have hl : ([Value.ref a] ++ []).length = ps.length := F.len _ _ _ _ q
  refine wpAny_call (codeAny_mono (F.run X.A.in1 X.stack s H ⟨[.ref a], []⟩ [.ref a] [.ref a] _ E0 hr.in1 I.env0.in1 (hb s [.ref a] I.kIn hl) (.cons rfl .nil) q) fun z s' hq => ?_)
  match z, hq with
  | .ok (.ret w'), hq =>
    obtain ⟨v', H', I', rv, y, e, qz⟩ := I.after hq
    subst e
    obtain ⟨t, e2⟩ := (show ∃ t, w' = Value.str y t from rv)
    subst e2
    exact ⟨.str y, H', I', ⟨t, rfl⟩, qz⟩
theorem cr_strOwn (hs : PySem.W.findIn X.K (.ref C) "__str__" = some (some (.ref g))) (hf : PySem.W.isFn X.K (.ref g) = true) (F : FnOk X.prog X.w X.K X.mg X.base CX0 k g fd ps sp) (hb : Binds X.K fd ps []) (hr : Room (k + 2) X.A) : CallR X (.type "str") (rTextOwn C sp) := by
  intro pins s σ H vs us Q I r h
  obtain ⟨a, dx, fs, rfl, ha, q⟩ := h
  rw [Vals.ref1 r]
  obtain ⟨mA, O, _⟩ := ins_get I.hok ha
  obtain ⟨od, J, _⟩ := O.look
  have hr2 : Room k X.A.in1.in1 := (show Room (k + 1) X.A.in1 from Room.in1 hr).in1
  refine PySem.W.kso_call (by have := hr2.units0; exact this) I.kIn J hs hf ?_
  have hl : ([Value.ref a] ++ []).length = ps.length := F.len _ _ _ _ q
  refine wpAny_call (codeAny_mono (F.run X.A.in1.in1 X.stack s H ⟨[.ref a], []⟩ [.ref a] [.ref a] _ E0 hr2 I.env0.in1.in1 (hb s [.ref a] I.kIn hl) (.cons rfl .nil) q) fun z s' hq => ?_)
  match z, hq with
  | .ok (.ret w'), hq =>
    obtain ⟨v', H', I', rv, y, e, qz⟩ := I.after hq
    subst e
    obtain ⟨t, e2⟩ := (show ∃ t, w' = Value.str y t from rv)
    subst e2
    exact ⟨.str y, H', I', ⟨t, rfl⟩, qz⟩
end
end RL

/-! The mathematics: whole roots, common divisors, the one equation of a number, its sign beside a fraction. -/
namespace RL
/-- small: fewer than 2 ^ n -/
def Sm (n : Nat) (x : Int) : Prop := x.natAbs < 2 ^ n
theorem Sm.mono {m n : Nat} {x : Int} (h : Sm m x) (l : m ≤ n) : Sm n x := Nat.lt_of_lt_of_le h (Nat.pow_le_pow_right (by decide) l)
theorem Sm.mul {m n : Nat} {x y : Int} (h : Sm m x) (k : Sm n y) : Sm (m + n) (x * y) := by
  unfold Sm at *
  rw [Int.natAbs_mul, Nat.pow_add]
  exact Nat.mul_lt_mul'' h k
theorem Sm.add {n : Nat} {x y : Int} (h : Sm n x) (k : Sm n y) : Sm (n + 1) (x + y) := by
  unfold Sm at *
  rw [Nat.pow_succ]
  omega
theorem Sm.sub {n : Nat} {x y : Int} (h : Sm n x) (k : Sm n y) : Sm (n + 1) (x - y) := by
  unfold Sm at *
  rw [Nat.pow_succ]
  omega
theorem Sm.neg {n : Nat} {x : Int} (h : Sm n x) : Sm n (-x) := by
  unfold Sm at *
  omega
theorem Sm.of {n : Nat} {x y : Int} (h : Sm n y) (a : -y ≤ x) (b : x ≤ y) : Sm n x := by
  unfold Sm at *
  omega
theorem Sm.div {n : Nat} {x y : Int} (h : Sm n x) (hy : 0 < y) : Sm n (x / y) := by
  unfold Sm at *
  have h1 : (x / y).natAbs ≤ x.natAbs := by
    rcases Int.le_total 0 x with hx | hx
    · have := Int.ediv_le_self y hx
      have := Int.ediv_nonneg hx (Int.le_of_lt hy)
      omega
    · have h3 : x / y ≤ 0 := by
        have := Int.ediv_le_ediv hy hx
        simpa using this
      have h2 : x ≤ x / y := by
        have h4 : x * y ≤ x := by
          have q := Int.mul_nonneg (a := -x) (b := y - 1) (by omega) (by omega)
          have e : -x * (y - 1) = x - x * y := by grind
          omega
        exact (Int.le_ediv_iff_mul_le hy).mpr h4
      omega
  omega
theorem sm40 {x : Int} (a : -(10 ^ 40) ≤ x) (b : x ≤ 10 ^ 40) : Sm 133 x := by
  unfold Sm
  have : (10 : Int) ^ 40 < 2 ^ 133 := by decide
  have e : ((2 ^ 133 : Nat) : Int) = 2 ^ 133 := by decide
  omega
/-! ### whole roots -/
def IsRt (w r : Int) : Prop := 0 ≤ r ∧ r * r ≤ w ∧ w < (r + 1) * (r + 1)
theorem IsRt.le {w r s : Int} (h : IsRt w r) (k : IsRt w s) : r ≤ s := by
  obtain ⟨h0, h1, h2⟩ := h
  obtain ⟨k0, k1, k2⟩ := k
  rcases Int.lt_or_le s r with l | l
  · have : (s + 1) * (s + 1) ≤ r * r := Int.mul_le_mul (by omega) (by omega) (by omega) (by omega)
    omega
  · exact l
theorem IsRt.eq {w r s : Int} (h : IsRt w r) (k : IsRt w s) : r = s := Int.le_antisymm (h.le k) (k.le h)
def rtN : Nat → Nat
  | 0 => 0
  | n + 1 => if (rtN n + 1) * (rtN n + 1) ≤ n + 1 then rtN n + 1 else rtN n
theorem rtN_is : ∀ n, rtN n * rtN n ≤ n ∧ n < (rtN n + 1) * (rtN n + 1)
  | 0 => ⟨Nat.le_refl _, by decide⟩
  | n + 1 => by
    have ih := rtN_is n
    unfold rtN
    split
    · rename_i h
      refine ⟨h, ?_⟩
      have : (rtN n + 1 + 1) * (rtN n + 1 + 1) = (rtN n + 1) * (rtN n + 1) + 2 * (rtN n + 1) + 1 := by grind
      omega
    · rename_i h
      omega
def rt (w : Int) : Int := (rtN w.toNat : Int)
theorem rt_is {w : Int} (h : 0 ≤ w) : IsRt w (rt w) := by
  have k := rtN_is w.toNat
  have e : (w.toNat : Int) = w := Int.toNat_of_nonneg h
  refine ⟨Int.natCast_nonneg _, ?_, ?_⟩
  · have := Int.ofNat_le.mpr k.1
    rw [Int.natCast_mul, e] at this
    exact this
  · have := Int.ofNat_lt.mpr k.2
    rw [Int.natCast_mul, e, Int.natCast_add] at this
    exact this
theorem rt_of {w r : Int} (h : IsRt w r) : r = rt w := h.eq (rt_is (Int.le_trans (Int.mul_nonneg h.1 h.1) h.2.1))
theorem rt_sm {n : Nat} {w : Int} (h0 : 0 ≤ w) (h : Sm (2 * n) w) : Sm n (rt w) := by
  obtain ⟨a, b, _⟩ := rt_is h0
  unfold Sm at *
  refine Nat.lt_of_not_le fun q => ?_
  have e : (2 : Nat) ^ (2 * n) = 2 ^ n * 2 ^ n := by rw [← Nat.pow_add]; congr 1; omega
  have : 2 ^ n * 2 ^ n ≤ (rt w).natAbs * (rt w).natAbs := Nat.mul_le_mul q q
  have e2 : (rt w * rt w).natAbs = (rt w).natAbs * (rt w).natAbs := Int.natAbs_mul _ _
  have : (rt w * rt w).natAbs ≤ w.natAbs := by
    have := Int.mul_nonneg a a
    omega
  omega
/-- a step of Newton's -/
theorem newton {n g : Int} (hn : 0 ≤ n) (hg : 0 ≤ g) (h : n < (g + 1) * (g + 1)) (l : n < g * g) :
    0 < g ∧ 0 ≤ (g + n / g) / 2 ∧ (g + n / g) / 2 < g ∧ n < ((g + n / g) / 2 + 1) * ((g + n / g) / 2 + 1) := by
  have g0 : 0 < g := by
    rcases Int.lt_or_le 0 g with q | q
    · exact q
    · have : g = 0 := by omega
      subst this
      omega
  have q0 : 0 ≤ n / g := Int.ediv_nonneg hn hg
  have q1 : n < g * (n / g + 1) := by
    have := Int.lt_mul_ediv_self_add (x := n) (k := g) g0
    rw [Int.mul_add, Int.mul_one]
    exact this
  have q2 : n / g < g := Int.ediv_lt_of_lt_mul g0 l
  generalize n / g = q at *
  have hm : g + q ≤ 2 * ((g + q) / 2) + 1 := by omega
  have h0 : 0 ≤ (g + q) / 2 := by omega
  have h1 : (g + q) / 2 < g := by omega
  generalize (g + q) / 2 = m at *
  refine ⟨g0, h0, h1, ?_⟩
  have a1 : (g + q + 1) * (g + q + 1) ≤ (2 * (m + 1)) * (2 * (m + 1)) := Int.mul_le_mul (by omega) (by omega) (by omega) (by omega)
  have a2 : 0 ≤ (g - q - 1) * (g - q - 1) := by
    rcases Int.le_total 0 (g - q - 1) with z | z
    · exact Int.mul_nonneg z z
    · exact Int.mul_nonneg_of_nonpos_of_nonpos z z
  have a3 : (g + q + 1) * (g + q + 1) = 4 * (g * (q + 1)) + (g - q - 1) * (g - q - 1) := by grind
  have a4 : (2 * (m + 1)) * (2 * (m + 1)) = 4 * ((m + 1) * (m + 1)) := by grind
  omega
/-! ### common divisors -/
def gc (a b : Int) : Int := (Int.gcd a b : Int)
theorem gc_nonneg (a b : Int) : 0 ≤ gc a b := Int.natCast_nonneg _
theorem gc_pos {a b : Int} (h : a ≠ 0 ∨ b ≠ 0) : 0 < gc a b := by
  unfold gc
  have : 0 < Int.gcd a b := by
    rcases Nat.eq_zero_or_pos (Int.gcd a b) with z | z
    · rw [Int.gcd_eq_zero_iff] at z
      omega
    · exact z
  omega
theorem gc_dvd1 (a b : Int) : gc a b ∣ a := Int.gcd_dvd_left ..
theorem gc_dvd2 (a b : Int) : gc a b ∣ b := Int.gcd_dvd_right ..
theorem gc_zero {a : Int} (h : 0 ≤ a) : gc a 0 = a := by
  unfold gc
  rw [Int.gcd_zero_right]
  omega
theorem gc_step {a b : Int} (ha : 0 ≤ a) (hb : 0 < b) : gc b (a % b) = gc a b := by
  obtain ⟨n, rfl⟩ := Int.eq_ofNat_of_zero_le ha
  obtain ⟨m, rfl⟩ := Int.eq_ofNat_of_zero_le (Int.le_of_lt hb)
  unfold gc
  congr 1
  rw [← Int.natCast_emod, Int.gcd_natCast_natCast, Int.gcd_natCast_natCast, Nat.gcd_comm, ← Nat.gcd_rec, Nat.gcd_comm]
theorem gc_abs (a b : Int) : gc (if a < 0 then -a else a) (if b < 0 then -b else b) = gc a b := by
  unfold gc
  congr 1
  split <;> split <;> simp
theorem gc_abs2 (a b : Int) : gc a (if b < 0 then -b else b) = gc a b := by
  unfold gc
  congr 1
  split <;> simp
theorem ex_mul {g a : Int} (h : g ∣ a) (hg : 0 < g) : a = g * (a / g) := (Int.mul_ediv_cancel' h).symm
/-! ### the one equation of a number -/
/-- the parts of an equation that is accepted -/
def Good (a b c : Int) : Prop := (a = 0 ∧ 1 ≤ b ∧ 0 ≤ c) ∨ (1 ≤ a ∧ 1 ≤ c)
structure Nrm (a b c s l w : Int) : Prop where
  good : Good s l w
  /-- the sign beside x / y -/
  sgn : ∀ x y : Int, 0 ≤ x → 1 ≤ y → (0 < w * y * y - l * x * y - s * x * x ↔ a * x * x + b * x * y - c * y * y < 0) ∧ (w * y * y - l * x * y - s * x * x = 0 ↔ a * x * x + b * x * y - c * y * y = 0)
/-- multiplied by a number above 0 -/
theorem pos_iff {k u : Int} (hk : 0 < k) : (0 < k * u ↔ 0 < u) ∧ (k * u = 0 ↔ u = 0) := by
  refine ⟨⟨fun h => ?_, fun h => Int.mul_pos hk h⟩, ⟨fun h => ?_, fun h => by rw [h, Int.mul_zero]⟩⟩
  · rcases Int.lt_or_le 0 u with z | z
    · exact z
    · have := Int.mul_nonpos_of_nonneg_of_nonpos (Int.le_of_lt hk) z
      omega
  · rcases Int.mul_eq_zero.mp h with z | z
    · omega
    · exact z
theorem nrm_div {a b c g : Int} (h : Good a b c) (hg : 0 < g) (da : g ∣ a) (db : g ∣ b) (dc : g ∣ c) : Nrm a b c (a / g) (b / g) (c / g) := by
  have ea := ex_mul da hg
  have eb := ex_mul db hg
  have ec := ex_mul dc hg
  generalize a / g = s at *
  generalize b / g = l at *
  generalize c / g = w at *
  subst ea eb ec
  refine ⟨?_, fun x y hx hy => ?_⟩
  · rcases h with ⟨h1, h2, h3⟩ | ⟨h1, h2⟩
    · refine .inl ⟨((pos_iff hg).2.mp h1), ?_, ?_⟩
      · have := (pos_iff (u := l) hg).1.mp (by omega)
        omega
      · rcases Int.lt_or_le w 0 with z | z
        · have := Int.mul_neg_of_pos_of_neg hg z
          omega
        · exact z
    · refine .inr ⟨?_, ?_⟩
      · have := (pos_iff (u := s) hg).1.mp (by omega)
        omega
      · have := (pos_iff (u := w) hg).1.mp (by omega)
        omega
  · have e : g * s * x * x + g * l * x * y - g * w * y * y = -(g * (w * y * y - l * x * y - s * x * x)) := by grind
    rw [e]
    have := pos_iff (k := g) (u := w * y * y - l * x * y - s * x * x) hg
    refine ⟨?_, ?_⟩
    · rw [← this.1]; omega
    · rw [← this.2]; omega
theorem rt_gt {b t r : Int} (ht : 0 < t) (hr : 0 ≤ r) (e : b * b + t = r * r) : 0 < r + b ∧ 0 < r - b := by
  refine ⟨?_, ?_⟩
  · rcases Int.lt_or_le 0 (r + b) with z | z
    · exact z
    · have h1 : 0 ≤ (-b - r) * (-b + r) := Int.mul_nonneg (by omega) (by omega)
      have h2 : (-b - r) * (-b + r) = b * b - r * r := by grind
      omega
  · rcases Int.lt_or_le 0 (r - b) with z | z
    · exact z
    · have h1 : 0 ≤ (b - r) * (b + r) := Int.mul_nonneg (by omega) (by omega)
      have h2 : (b - r) * (b + r) = b * b - r * r := by grind
      omega
theorem nrm_root {a b c r g : Int} (ha : 1 ≤ a) (hc : 1 ≤ c) (hr : 0 ≤ r) (e : b * b + 4 * a * c = r * r) (hg : 0 < g) (d1 : g ∣ r - b) (d2 : g ∣ 2 * a) : Nrm a b c 0 (2 * a / g) ((r - b) / g) := by
  have hac : 0 < 4 * a * c := Int.mul_pos (by omega) (by omega)
  obtain ⟨p1, p2⟩ := rt_gt hac hr e
  have e1 := ex_mul d1 hg
  have e2 := ex_mul d2 hg
  have l0 : 1 ≤ 2 * a / g := by
    have := (pos_iff (u := 2 * a / g) hg).1.mp (by omega)
    omega
  have w0 : 1 ≤ (r - b) / g := by
    have := (pos_iff (u := (r - b) / g) hg).1.mp (by omega)
    omega
  generalize 2 * a / g = l at *
  generalize (r - b) / g = w at *
  refine ⟨.inl ⟨rfl, l0, by omega⟩, fun x y hx hy => ?_⟩
  have k : 0 < r * y + b * y + 2 * a * x := by
    have h1 : 0 < (r + b) * y := Int.mul_pos p1 (by omega)
    have h2 : 0 ≤ 2 * a * x := Int.mul_nonneg (by omega) hx
    have h3 : (r + b) * y = r * y + b * y := by grind
    omega
  have y0 : 0 < y := by omega
  -- y * g * (w y - l x) = y * ((r - b) y - 2 a x)
  have f1 : g * (w * y * y - l * x * y - 0 * x * x) = y * ((r - b) * y - 2 * a * x) := by
    rw [e1, e2]; grind
  have f2 : 4 * a * (c * y * y - a * x * x - b * x * y) = (r * y + b * y + 2 * a * x) * ((r - b) * y - 2 * a * x) := by grind
  have q1 := pos_iff (u := w * y * y - l * x * y - 0 * x * x) hg
  have q2 := pos_iff (u := (r - b) * y - 2 * a * x) y0
  have q3 := pos_iff (k := 4 * a) (u := c * y * y - a * x * x - b * x * y) (by omega)
  have q4 := pos_iff (u := (r - b) * y - 2 * a * x) k
  rw [f1] at q1
  rw [f2] at q3
  refine ⟨?_, ?_⟩
  · rw [← q1.1, q2.1, ← q4.1, q3.1]; omega
  · rw [← q1.2, q2.2, ← q4.2, q3.2]; omega
/-- what the program keeps of an equation -/
def parts (a b c : Int) : Int × Int × Int :=
  if a = 0 then (0, b / gc c b, c / gc c b)
  else if rt (b * b + 4 * a * c) * rt (b * b + 4 * a * c) = b * b + 4 * a * c then
    (0, 2 * a / gc (rt (b * b + 4 * a * c) - b) (2 * a), (rt (b * b + 4 * a * c) - b) / gc (rt (b * b + 4 * a * c) - b) (2 * a))
  else (a / gc (gc a b) c, b / gc (gc a b) c, c / gc (gc a b) c)
theorem inside_pos {a b c : Int} (h : 1 ≤ a ∧ 1 ≤ c) : 0 < 4 * a * c ∧ 0 ≤ b * b + 4 * a * c := by
  have hac : 0 < 4 * a * c := Int.mul_pos (by omega) (by omega)
  have hb : 0 ≤ b * b := by
    rcases Int.le_total 0 b with z | z
    · exact Int.mul_nonneg z z
    · exact Int.mul_nonneg_of_nonpos_of_nonpos z z
  omega
theorem parts_nrm {a b c : Int} (h : Good a b c) : Nrm a b c (parts a b c).1 (parts a b c).2.1 (parts a b c).2.2 := by
  unfold parts
  rcases h with ⟨rfl, h2, h3⟩ | h
  · rw [if_pos rfl]
    have g0 : 0 < gc c b := gc_pos (.inr (by omega))
    have := nrm_div (a := 0) (b := b) (c := c) (.inl ⟨rfl, h2, h3⟩) g0 (Int.dvd_zero _) (gc_dvd2 _ _) (gc_dvd1 _ _)
    rw [Int.zero_ediv] at this
    exact this
  · rw [if_neg (by omega)]
    have k := inside_pos (b := b) h
    split
    · rename_i e
      exact nrm_root h.1 h.2 (rt_is k.2).1 e.symm (gc_pos (.inr (by omega))) (gc_dvd1 _ _) (gc_dvd2 _ _)
    · exact nrm_div (.inr h) (gc_pos (.inr (by omega))) (Int.dvd_trans (gc_dvd1 _ _) (gc_dvd1 _ _)) (Int.dvd_trans (gc_dvd1 _ _) (gc_dvd2 _ _)) (gc_dvd2 _ _)
theorem parts_sm {a b c : Int} (h : Good a b c) (ha : Sm 133 a) (hb : Sm 133 b) (hc : Sm 133 c) : Sm 150 (parts a b c).1 ∧ Sm 150 (parts a b c).2.1 ∧ Sm 150 (parts a b c).2.2 := by
  unfold parts
  rcases h with ⟨rfl, h2, h3⟩ | h
  · rw [if_pos rfl]
    have g0 : 0 < gc c b := gc_pos (.inr (by omega))
    exact ⟨show Sm 150 0 by unfold Sm; decide, (hb.div g0).mono (by decide), (hc.div g0).mono (by decide)⟩
  · rw [if_neg (by omega)]
    have k := inside_pos (b := b) h
    have hd : Sm 270 (b * b + 4 * a * c) := by
      have h4 : Sm 3 4 := by unfold Sm; decide
      have e1 : Sm (133 + 133) (b * b) := hb.mul hb
      have e2 : Sm (3 + 133 + 133) (4 * a * c) := (h4.mul ha).mul hc
      exact (Sm.add (n := 269) (e1.mono (by decide)) (e2.mono (by decide)))
    have hr : Sm 135 (rt (b * b + 4 * a * c)) := rt_sm (n := 135) k.2 hd
    have h2 : Sm 2 2 := by unfold Sm; decide
    split
    · have g0 : 0 < gc (rt (b * b + 4 * a * c) - b) (2 * a) := gc_pos (.inr (by omega))
      refine ⟨show Sm 150 0 by unfold Sm; decide, ?_, ?_⟩
      · exact ((h2.mul ha).div g0).mono (by decide)
      · exact ((hr.sub (hb.mono (by decide))).div g0).mono (by decide)
    · have g0 : 0 < gc (gc a b) c := gc_pos (.inr (by omega))
      exact ⟨(ha.div g0).mono (by decide), (hb.div g0).mono (by decide), (hc.div g0).mono (by decide)⟩
/-! ### beside a fraction -/
def sg (n : Int) : Int := if 0 < n then 1 else if n < 0 then -1 else 0
/-- the law's side -/
def side (a b c x y : Int) : Int := if y = 0 then -1 else sg (-(a * x * x + b * x * y - c * y * y))
def beside (s l w x y : Int) : Int := sg (w * y * y - l * x * y - s * x * x)
theorem Nrm.side {a b c s l w x y : Int} (h : Nrm a b c s l w) (hx : 0 ≤ x) (hy : 1 ≤ y) : beside s l w x y = RL.side a b c x y := by
  obtain ⟨k1, k2⟩ := h.sgn x y hx hy
  unfold beside RL.side sg
  rw [if_neg (show ¬ y = 0 by omega)]
  generalize w * y * y - l * x * y - s * x * x = u at *
  generalize a * x * x + b * x * y - c * y * y = v at *
  by_cases p : 0 < u
  · have := k1.mp p
    rw [if_pos p, if_pos (by omega)]
  · by_cases q : u = 0
    · have := k2.mp q
      rw [if_neg p, if_neg (by omega), if_neg (by omega), if_neg (by omega)]
    · have : ¬ v < 0 := fun z => p (k1.mpr z)
      have : ¬ v = 0 := fun z => q (k2.mpr z)
      rw [if_neg p, if_pos (by omega), if_neg (by omega), if_pos (by omega)]
/-- the same fraction written otherwise -/
theorem side_same {a b c x y k : Int} (hk : 1 ≤ k) (hy : 1 ≤ y) : RL.side a b c (k * x) (k * y) = RL.side a b c x y := by
  unfold RL.side
  have h0 : ¬ k * y = 0 := by
    have := Int.mul_pos (a := k) (b := y) (by omega) (by omega)
    omega
  rw [if_neg h0, if_neg (show ¬ y = 0 by omega)]
  have kk : 0 < k * k := Int.mul_pos (by omega) (by omega)
  have e : -(a * (k * x) * (k * x) + b * (k * x) * (k * y) - c * (k * y) * (k * y)) = k * k * (-(a * x * x + b * x * y - c * y * y)) := by grind
  rw [e]
  generalize -(a * x * x + b * x * y - c * y * y) = u
  have q := pos_iff (u := u) kk
  unfold sg
  by_cases p : 0 < u
  · rw [if_pos p, if_pos (q.1.mpr p)]
  · by_cases z : u = 0
    · subst z
      rw [Int.mul_zero]
    · have h1 : ¬ 0 < k * k * u := fun t => p (q.1.mp t)
      have h2 : ¬ k * k * u = 0 := fun t => z (q.2.mp t)
      rw [if_neg p, if_pos (show u < 0 by omega), if_neg h1, if_pos (show k * k * u < 0 by omega)]
/-! ### floors -/
def flo (s l w t : Int) : Int := if s = 0 then t * w / l else (rt (t * t * (l * l + 4 * s * w)) - t * l) / (2 * s)
theorem flo_is {s l w t : Int} (h : Good s l w) (ht : 1 ≤ t) : 0 ≤ flo s l w t ∧ 0 ≤ beside s l w (flo s l w t) t ∧ beside s l w (flo s l w t + 1) t = -1 := by
  have sgp : ∀ n : Int, 0 ≤ n → 0 ≤ sg n := fun n hn => by
    unfold sg
    split
    · decide
    · split
      · omega
      · decide
  have sgn : ∀ n : Int, n < 0 → sg n = -1 := fun n hn => by
    unfold sg
    rw [if_neg (by omega), if_pos hn]
  unfold flo
  rcases h with ⟨rfl, h2, h3⟩ | h
  · rw [if_pos rfl]
    have l0 : 0 < l := by omega
    have d1 := Int.mul_ediv_self_le (x := t * w) (k := l) (by omega)
    have d2 := Int.lt_mul_ediv_self_add (x := t * w) (k := l) l0
    have d0 : 0 ≤ t * w / l := Int.ediv_nonneg (Int.mul_nonneg (by omega) h3) (by omega)
    generalize t * w / l = q at *
    refine ⟨d0, sgp _ ?_, sgn _ ?_⟩
    · have : w * t * t - l * q * t - 0 * q * q = t * (t * w - l * q) := by grind
      rw [this]
      exact Int.mul_nonneg (by omega) (by omega)
    · have : w * t * t - l * (q + 1) * t - 0 * (q + 1) * (q + 1) = -(t * (l * q + l - t * w)) := by grind
      rw [this]
      have := Int.mul_pos (a := t) (b := l * q + l - t * w) (by omega) (by omega)
      omega
  · rw [if_neg (by omega)]
    have hsw : 0 < 4 * s * w := Int.mul_pos (by omega) (by omega)
    have ll : 0 ≤ l * l := by
      rcases Int.le_total 0 l with z | z
      · exact Int.mul_nonneg z z
      · exact Int.mul_nonneg_of_nonpos_of_nonpos z z
    have w0 : 0 ≤ t * t * (l * l + 4 * s * w) := Int.mul_nonneg (Int.mul_nonneg (by omega) (by omega)) (by omega)
    obtain ⟨r0, r1, r2⟩ := rt_is w0
    generalize er : rt (t * t * (l * l + 4 * s * w)) = r at *
    -- r is at least t * l either way
    have rl : -r ≤ t * l ∧ t * l ≤ r := by
      have h0 : t * l * (t * l) ≤ t * t * (l * l + 4 * s * w) := by
        have e : t * t * (l * l + 4 * s * w) = t * l * (t * l) + t * t * (4 * s * w) := by grind
        have := Int.mul_nonneg (a := t * t) (b := 4 * s * w) (Int.mul_nonneg (by omega) (by omega)) (by omega)
        omega
      refine ⟨?_, ?_⟩
      · rcases Int.lt_or_le (t * l) (-r) with z | z
        · have : (r + 1) * (r + 1) ≤ (-(t * l)) * (-(t * l)) := Int.mul_le_mul (by omega) (by omega) (by omega) (by omega)
          have e : (-(t * l)) * (-(t * l)) = t * l * (t * l) := by grind
          omega
        · exact z
      · rcases Int.lt_or_le r (t * l) with z | z
        · have : (r + 1) * (r + 1) ≤ (t * l) * (t * l) := Int.mul_le_mul (by omega) (by omega) (by omega) (by omega)
          omega
        · exact z
    have s0 : 0 < 2 * s := by omega
    have d1 := Int.mul_ediv_self_le (x := r - t * l) (k := 2 * s) (by omega)
    have d2 := Int.lt_mul_ediv_self_add (x := r - t * l) (k := 2 * s) s0
    have d0 : 0 ≤ (r - t * l) / (2 * s) := Int.ediv_nonneg (by omega) (by omega)
    generalize (r - t * l) / (2 * s) = q at *
    have f : ∀ z : Int, 4 * s * (w * t * t - l * z * t - s * z * z) = t * t * (l * l + 4 * s * w) - (2 * s * z + t * l) * (2 * s * z + t * l) := fun z => by grind
    have sp : 0 < 4 * s := by omega
    refine ⟨d0, sgp _ ?_, sgn _ ?_⟩
    · have u1 : 0 ≤ 2 * s * q := Int.mul_nonneg (by omega) d0
      have u2 : (2 * s * q + t * l) * (2 * s * q + t * l) ≤ r * r := by
        rcases Int.le_total 0 (2 * s * q + t * l) with z | z
        · exact Int.mul_le_mul (by omega) (by omega) (by omega) (by omega)
        · have := Int.mul_le_mul (a := -(2 * s * q + t * l)) (b := -(2 * s * q + t * l)) (c := r) (d := r) (by omega) (by omega) (by omega) (by omega)
          have e : (-(2 * s * q + t * l)) * (-(2 * s * q + t * l)) = (2 * s * q + t * l) * (2 * s * q + t * l) := by grind
          omega
      have u3 := f q
      have u4 := pos_iff (u := w * t * t - l * q * t - s * q * q) sp
      rcases Int.lt_or_le (w * t * t - l * q * t - s * q * q) 0 with z | z
      · have := Int.mul_neg_of_pos_of_neg sp z
        omega
      · exact z
    · have u0 : 2 * s * (q + 1) = 2 * s * q + 2 * s := by grind
      have u2 : (r + 1) * (r + 1) ≤ (2 * s * (q + 1) + t * l) * (2 * s * (q + 1) + t * l) := Int.mul_le_mul (by omega) (by omega) (by omega) (by omega)
      have u3 := f (q + 1)
      rcases Int.lt_or_le (w * t * t - l * (q + 1) * t - s * (q + 1) * (q + 1)) 0 with z | z
      · exact z
      · have := Int.mul_nonneg (Int.le_of_lt sp) z
        omega
end RL

/-! The order of two numbers: by the program's signs, and that unlike small ones differ within thirty figures. -/
namespace RL
theorem sq_nn (x : Int) : 0 ≤ x * x := by
  rcases Int.le_total 0 x with z | z
  · exact Int.mul_nonneg z z
  · exact Int.mul_nonneg_of_nonpos_of_nonpos z z
/-- above 0 just if the number is greater than x / y -/
def Fv (s l w x y : Int) : Int := w * y * y - l * x * y - s * x * x
/-- further right it stays less -/
theorem fv_down {s l w x y x' y' : Int} (g : Good s l w) (hx : 0 ≤ x) (hy : 1 ≤ y) (hx' : 0 ≤ x') (hy' : 1 ≤ y') (h : Fv s l w x y < 0) (c : x * y' ≤ x' * y) : Fv s l w x' y' < 0 := by
  refine Classical.byContradiction fun q => ?_
  have yy : 0 < y * y' := Int.mul_pos (by omega) (by omega)
  have h1 : y' * y' * Fv s l w x y = w * (y * y') * (y * y') - l * (x * y') * (y * y') - s * (x * y') * (x * y') := by unfold Fv; grind
  have h2 : y * y * Fv s l w x' y' = w * (y * y') * (y * y') - l * (x' * y) * (y * y') - s * (x' * y) * (x' * y) := by unfold Fv; grind
  have k1 : y' * y' * Fv s l w x y < 0 := Int.mul_neg_of_pos_of_neg (Int.mul_pos (by omega) (by omega)) h
  have k2 : 0 ≤ y * y * Fv s l w x' y' := Int.mul_nonneg (sq_nn y) (by omega)
  have u0 : 0 ≤ x * y' := Int.mul_nonneg hx (by omega)
  generalize x * y' = u at *
  generalize x' * y = v at *
  generalize y * y' = Y at *
  have d : (v - u) * (l * Y + s * (u + v)) = l * v * Y + s * v * v - (l * u * Y + s * u * u) := by grind
  have k3 : (v - u) * (l * Y + s * (u + v)) < 0 := by omega
  have k4 : 0 < v - u := by
    rcases Int.lt_or_le 0 (v - u) with z | z
    · exact z
    · have : v - u = 0 := by omega
      rw [this, Int.zero_mul] at k3
      omega
  have k5 : l * Y + s * (u + v) < 0 := by
    refine Classical.byContradiction fun z => ?_
    have := Int.mul_nonneg (Int.le_of_lt k4) (Int.not_lt.mp z)
    omega
  rcases g with ⟨rfl, l0, w0⟩ | ⟨s0, w0⟩
  · have := Int.mul_pos (a := l) (b := Y) (by omega) yy
    omega
  · have e : u * (l * Y + s * u) = l * u * Y + s * u * u := by grind
    have p : 0 < w * Y * Y := Int.mul_pos (Int.mul_pos (by omega) yy) yy
    have k6 : 0 < u * (l * Y + s * u) := by omega
    have k7 : 0 < l * Y + s * u := by
      refine Classical.byContradiction fun z => ?_
      have := Int.mul_nonpos_of_nonneg_of_nonpos u0 (Int.not_lt.mp z)
      omega
    have k8 : 0 ≤ s * v := Int.mul_nonneg (by omega) (by omega)
    have e2 : s * (u + v) = s * u + s * v := by grind
    omega
theorem fv_down' {s l w x y x' y' : Int} (g : Good s l w) (hx : 0 ≤ x) (hy : 1 ≤ y) (hx' : 0 ≤ x') (hy' : 1 ≤ y') (h : Fv s l w x y ≤ 0) (c : x * y' < x' * y) : Fv s l w x' y' < 0 := by
  refine Classical.byContradiction fun q => ?_
  have yy : 0 < y * y' := Int.mul_pos (by omega) (by omega)
  have h1 : y' * y' * Fv s l w x y = w * (y * y') * (y * y') - l * (x * y') * (y * y') - s * (x * y') * (x * y') := by unfold Fv; grind
  have h2 : y * y * Fv s l w x' y' = w * (y * y') * (y * y') - l * (x' * y) * (y * y') - s * (x' * y) * (x' * y) := by unfold Fv; grind
  have k1 : y' * y' * Fv s l w x y ≤ 0 := Int.mul_nonpos_of_nonneg_of_nonpos (sq_nn y') h
  have k2 : 0 ≤ y * y * Fv s l w x' y' := Int.mul_nonneg (sq_nn y) (by omega)
  have u0 : 0 ≤ x * y' := Int.mul_nonneg hx (by omega)
  generalize x * y' = u at *
  generalize x' * y = v at *
  generalize y * y' = Y at *
  have d : (v - u) * (l * Y + s * (u + v)) = l * v * Y + s * v * v - (l * u * Y + s * u * u) := by grind
  have k3 : (v - u) * (l * Y + s * (u + v)) ≤ 0 := by omega
  have k4 : 0 < v - u := by omega
  have k5 : l * Y + s * (u + v) ≤ 0 := by
    refine Classical.byContradiction fun z => ?_
    have := Int.mul_pos k4 (Int.not_le.mp z)
    omega
  rcases g with ⟨rfl, l0, w0⟩ | ⟨s0, w0⟩
  · have := Int.mul_pos (a := l) (b := Y) (by omega) yy
    omega
  · have e : u * (l * Y + s * u) = l * u * Y + s * u * u := by grind
    have p : 0 < w * Y * Y := Int.mul_pos (Int.mul_pos (by omega) yy) yy
    have k6 : 0 < u * (l * Y + s * u) := by omega
    have k7 : 0 < l * Y + s * u := by
      refine Classical.byContradiction fun z => ?_
      have := Int.mul_nonpos_of_nonneg_of_nonpos u0 (Int.not_lt.mp z)
      omega
    have k8 : 0 ≤ s * v := Int.mul_nonneg (by omega) (by omega)
    have e2 : s * (u + v) = s * u + s * v := by grind
    omega
/-- further left it stays greater -/
theorem fv_up {s l w x y x' y' : Int} (g : Good s l w) (hx : 0 ≤ x) (hy : 1 ≤ y) (hx' : 0 ≤ x') (hy' : 1 ≤ y') (h : 0 ≤ Fv s l w x y) (c : x' * y < x * y') : 0 < Fv s l w x' y' := by
  refine Classical.byContradiction fun q => ?_
  have := fv_down' g hx' hy' hx hy (Int.not_lt.mp q) c
  omega
/-! ### the program's order -/
def sal0 (s l w sl h : Int) : Int := if sl = 0 ∨ h < 0 then sg (-h) else beside s l w h sl
def sal (s l w sl h : Int) : Int := if sl < 0 then -(sal0 s l w (-sl) (-h)) else sal0 s l w sl h
def ord (s l w s' l' w' : Int) : Int := if s' = 0 then beside s l w w' l' else -(sal s' l' w' (l * s' - l' * s) (w * s' - w' * s))
theorem sg_neg {n : Int} (h : n < 0) : sg n = -1 := by unfold sg; rw [if_neg (by omega), if_pos h]
theorem sg_pos {n : Int} (h : 0 < n) : sg n = 1 := by unfold sg; rw [if_pos h]
theorem sg_zero : sg 0 = 0 := by decide
theorem lin {s l w s' l' w' x y : Int} : s * Fv s' l' w' x y - s' * Fv s l w x y = y * ((l * s' - l' * s) * x - (w * s' - w' * s) * y) := by unfold Fv; grind
theorem lin0 {s l w s' l' w' : Int} : s' * Fv s l w (w * s' - w' * s) (l * s' - l' * s) = s * Fv s' l' w' (w * s' - w' * s) (l * s' - l' * s) := by unfold Fv; grind
theorem lin0' {s l w s' l' w' : Int} : s' * Fv s l w (-(w * s' - w' * s)) (-(l * s' - l' * s)) = s * Fv s' l' w' (-(w * s' - w' * s)) (-(l * s' - l' * s)) := by unfold Fv; grind
theorem ord_lt {s l w s' l' w' x y : Int} (g : Good s l w) (g' : Good s' l' w') (hx : 0 ≤ x) (hy : 1 ≤ y) (h : Fv s l w x y < 0) (h' : 0 ≤ Fv s' l' w' x y) : ord s l w s' l' w' = -1 := by
  unfold ord
  split
  · rename_i z
    subst z
    rcases g' with ⟨_, l0, w0⟩ | ⟨z, _⟩
    · refine sg_neg (fv_down g hx hy w0 l0 h ?_)
      have e : Fv 0 l' w' x y = y * (w' * y - l' * x) := by unfold Fv; grind
      rw [e] at h'
      have : 0 ≤ w' * y - l' * x := by
        refine Classical.byContradiction fun z => ?_
        have := Int.mul_neg_of_pos_of_neg (a := y) (by omega) (Int.not_le.mp z)
        omega
      have e2 : x * l' = l' * x := Int.mul_comm _ _
      omega
    · omega
  · rename_i z
    have g2 := g'
    rcases g' with g' | ⟨s0', w0'⟩
    · exact absurd g'.1 z
    have s0 : 0 ≤ s := by rcases g with g | g <;> omega
    -- the line at x / y
    have L : 0 < (l * s' - l' * s) * x - (w * s' - w' * s) * y := by
      have e := lin (s := s) (l := l) (w := w) (s' := s') (l' := l') (w' := w') (x := x) (y := y)
      have a1 : 0 ≤ s * Fv s' l' w' x y := Int.mul_nonneg s0 h'
      have a2 : s' * Fv s l w x y < 0 := Int.mul_neg_of_pos_of_neg (by omega) h
      refine Classical.byContradiction fun q => ?_
      have := Int.mul_nonpos_of_nonneg_of_nonpos (a := y) (by omega) (Int.not_lt.mp q)
      omega
    have e0 := lin0 (s := s) (l := l) (w := w) (s' := s') (l' := l') (w' := w')
    have e0' := lin0' (s := s) (l := l) (w := w) (s' := s') (l' := l') (w' := w')
    generalize l * s' - l' * s = sl at *
    generalize w * s' - w' * s = hh at *
    have goal1 : sal s' l' w' sl hh = 1 := by
      unfold sal sal0
      split
      · rename_i q
        -- falling line
        have m1 : sl * x ≤ 0 := Int.mul_nonpos_of_nonpos_of_nonneg (by omega) hx
        have h0 : hh < 0 := by
          refine Classical.byContradiction fun t => ?_
          have := Int.mul_nonneg (a := hh) (b := y) (by omega) (by omega)
          omega
        rw [if_neg (by omega)]
        have c : x * -sl < -hh * y := by
          have e1 : x * -sl = -(sl * x) := by grind
          have e2 : -hh * y = -(hh * y) := by grind
          omega
        have f1 := fv_down g hx hy (show 0 ≤ -hh by omega) (show 1 ≤ -sl by omega) h (Int.le_of_lt c)
        have f2 : s * Fv s' l' w' (-hh) (-sl) < 0 := by
          rw [← e0']
          exact Int.mul_neg_of_pos_of_neg (by omega) f1
        have f3 : Fv s' l' w' (-hh) (-sl) < 0 := by
          refine Classical.byContradiction fun t => ?_
          have := Int.mul_nonneg s0 (Int.not_lt.mp t)
          omega
        have f4 : beside s' l' w' (-hh) (-sl) = -1 := sg_neg f3
        rw [f4]
        decide
      · rename_i q
        split
        · rename_i t
          refine sg_pos ?_
          rcases t with t | t
          · subst t
            rw [Int.zero_mul] at L
            refine Classical.byContradiction fun r => ?_
            have := Int.mul_nonneg (a := hh) (b := y) (by omega) (by omega)
            omega
          · omega
        · rename_i t
          refine sg_pos (fv_up g2 hx hy (by omega) (by omega) h' ?_)
          have e1 : x * sl = sl * x := Int.mul_comm _ _
          omega
    rw [goal1]
theorem ord_gt {s l w s' l' w' x y : Int} (g : Good s l w) (g' : Good s' l' w') (hx : 0 ≤ x) (hy : 1 ≤ y) (h : Fv s l w x y < 0) (h' : 0 ≤ Fv s' l' w' x y) : ord s' l' w' s l w = 1 := by
  unfold ord
  split
  · rename_i z
    subst z
    rcases g with ⟨_, l0, w0⟩ | ⟨z, _⟩
    · refine sg_pos (fv_up g' hx hy w0 l0 h' ?_)
      have e : Fv 0 l w x y = y * (w * y - l * x) := by unfold Fv; grind
      rw [e] at h
      have : w * y - l * x < 0 := by
        refine Classical.byContradiction fun z => ?_
        have := Int.mul_nonneg (a := y) (by omega) (Int.not_lt.mp z)
        omega
      have e2 : x * l = l * x := Int.mul_comm _ _
      omega
    · omega
  · rename_i z
    have g2 := g
    rcases g with g | ⟨s0, w0⟩
    · exact absurd g.1 z
    have s0' : 0 ≤ s' := by rcases g' with g | g <;> omega
    have goal1 : sal s l w (l' * s - l * s') (w' * s - w * s') = -1 := by
      rcases Int.lt_or_le 0 s' with sp | sp
      · have L : (l' * s - l * s') * x < (w' * s - w * s') * y := by
          have e := lin (s := s) (l := l) (w := w) (s' := s') (l' := l') (w' := w') (x := x) (y := y)
          have a1 : 0 ≤ s * Fv s' l' w' x y := Int.mul_nonneg (by omega) h'
          have a2 : s' * Fv s l w x y < 0 := Int.mul_neg_of_pos_of_neg sp h
          have a3 : 0 < (l * s' - l' * s) * x - (w * s' - w' * s) * y := by
            refine Classical.byContradiction fun q => ?_
            have := Int.mul_nonpos_of_nonneg_of_nonpos (a := y) (by omega) (Int.not_lt.mp q)
            omega
          have e1 : (l * s' - l' * s) * x = -((l' * s - l * s') * x) := by grind
          have e2 : (w * s' - w' * s) * y = -((w' * s - w * s') * y) := by grind
          omega
        have e0 := lin0' (s := s') (l := l') (w := w') (s' := s) (l' := l) (w' := w)
        generalize l' * s - l * s' = sl at *
        generalize w' * s - w * s' = hh at *
        unfold sal sal0
        split
        · rename_i q
          have goal2 : (if -sl = 0 ∨ -hh < 0 then sg (- -hh) else beside s l w (-hh) (-sl)) = 1 := by
            split
            · rename_i t
              refine sg_pos ?_
              omega
            · rename_i t
              have c : -hh * y < x * -sl := by
                have e1 : x * -sl = -(sl * x) := by grind
                have e2 : -hh * y = -(hh * y) := by grind
                omega
              have f1 := fv_up g' hx hy (show 0 ≤ -hh by omega) (show 1 ≤ -sl by omega) h' c
              have f2 : 0 < s' * Fv s l w (-hh) (-sl) := by
                rw [← e0]
                exact Int.mul_pos (by omega) f1
              refine sg_pos (show 0 < Fv s l w (-hh) (-sl) from ?_)
              refine Classical.byContradiction fun t => ?_
              have := Int.mul_nonpos_of_nonneg_of_nonpos s0' (Int.not_lt.mp t)
              omega
          rw [goal2]
        · rename_i q
          have m1 : 0 ≤ sl * x := Int.mul_nonneg (by omega) hx
          have h0 : 0 < hh := by
            refine Classical.byContradiction fun t => ?_
            have := Int.mul_nonpos_of_nonpos_of_nonneg (a := hh) (b := y) (by omega) (by omega)
            omega
          split
          · exact sg_neg (by omega)
          · rename_i t
            refine sg_neg (fv_down g2 hx hy (by omega) (by omega) h ?_)
            have e1 : x * sl = sl * x := Int.mul_comm _ _
            omega
      · have s1 : s' = 0 := by omega
        subst s1
        rcases g' with ⟨_, l0, w0⟩ | ⟨zz, _⟩
        · have p1 : 0 < l' * s := Int.mul_pos (by omega) (by omega)
          have p2 : 0 ≤ w' * s := Int.mul_nonneg w0 (by omega)
          rw [Int.mul_zero, Int.mul_zero, Int.sub_zero, Int.sub_zero]
          unfold sal sal0
          rw [if_neg (by omega), if_neg (by omega)]
          refine sg_neg (fv_down g2 hx hy p2 p1 h ?_)
          have e : Fv 0 l' w' x y = y * (w' * y - l' * x) := by unfold Fv; grind
          rw [e] at h'
          have q : 0 ≤ w' * y - l' * x := by
            refine Classical.byContradiction fun z => ?_
            have := Int.mul_neg_of_pos_of_neg (a := y) (by omega) (Int.not_le.mp z)
            omega
          have q2 := Int.mul_nonneg q (show 0 ≤ s by omega)
          have e3 : (w' * y - l' * x) * s = w' * s * y - x * (l' * s) := by grind
          omega
        · omega
    rw [goal1]
    decide
/-- a number beside itself -/
theorem ord_self {s l w : Int} (g : Good s l w) : ord s l w s l w = 0 := by
  unfold ord
  split
  · rename_i z
    subst z
    unfold beside
    have e : w * l * l - l * w * l - 0 * w * w = 0 := by grind
    rw [e, sg_zero]
  · have e1 : l * s - l * s = 0 := by omega
    have e2 : w * s - w * s = 0 := by omega
    rw [e1, e2]
    unfold sal sal0
    rw [if_neg (by decide), if_pos (.inl rfl)]
    decide
/-! ### lowest terms, and one equation for one number -/
theorem gc_mul {k a b : Int} (hk : 0 ≤ k) : gc (k * a) (k * b) = k * gc a b := by
  unfold gc
  rw [Int.gcd_mul_left, Int.natCast_mul]
  congr 1
  omega
theorem gc_comm (a b : Int) : gc a b = gc b a := by
  unfold gc
  rw [Int.gcd_comm]
theorem cancel {a b c : Int} (ha : 0 < a) (h : a * b = a * c) : b = c := Int.eq_of_mul_eq_mul_left (by omega) h
theorem low_eq {c b p q : Int} (hb : 0 < b) (hq : 0 < q) (h : c * q = p * b) : b / gc c b = q / gc p q ∧ c / gc c b = p / gc p q := by
  have g1 : 0 < gc c b := gc_pos (.inr (by omega))
  have g2 : 0 < gc p q := gc_pos (.inr (by omega))
  have e : q * gc c b = b * gc p q := by
    rw [← gc_mul (by omega), ← gc_mul (by omega)]
    congr 1
    · rw [Int.mul_comm q c, h, Int.mul_comm]
    · exact Int.mul_comm _ _
  have b1 := ex_mul (gc_dvd2 c b) g1
  have c1 := ex_mul (gc_dvd1 c b) g1
  have q1 := ex_mul (gc_dvd2 p q) g2
  have p1 := ex_mul (gc_dvd1 p q) g2
  generalize b / gc c b = B at *
  generalize c / gc c b = Cc at *
  generalize q / gc p q = Qq at *
  generalize p / gc p q = Pp at *
  generalize gc c b = G at *
  generalize gc p q = K at *
  have gk : 0 < G * K := Int.mul_pos g1 g2
  have e1 : B = Qq := by
    refine cancel gk ?_
    rw [b1, q1] at e
    grind
  refine ⟨e1, ?_⟩
  have bp : 0 < B := by
    refine Classical.byContradiction fun z => ?_
    have := Int.mul_nonpos_of_nonneg_of_nonpos (Int.le_of_lt g1) (Int.not_lt.mp z)
    omega
  refine cancel (Int.mul_pos gk bp) ?_
  rw [c1, q1, p1, b1] at h
  subst e1
  grind
theorem dvd_sq {q m : Int} (h : q * q ∣ m * m) : q ∣ m := by
  have h1 : q.natAbs ^ 2 ∣ m.natAbs ^ 2 := by
    have := Int.natAbs_dvd_natAbs.mpr h
    rw [Int.natAbs_mul, Int.natAbs_mul] at this
    rw [Nat.pow_two, Nat.pow_two]
    exact this
  exact Int.natAbs_dvd_natAbs.mp ((Nat.pow_dvd_pow_iff (by decide)).mp h1)
/-- a number that is a fraction -/
theorem rat_root {a b c p q : Int} (g : Good a b c) (hp : 0 ≤ p) (hq : 1 ≤ q) (h : a * p * p + b * p * q = c * q * q) : parts a b c = (0, q / gc p q, p / gc p q) := by
  rcases g with ⟨rfl, b0, c0⟩ | ⟨a0, c0⟩
  · unfold parts
    rw [if_pos rfl]
    have h2 : c * q = p * b := by
      refine cancel (a := q) (by omega) ?_
      grind
    obtain ⟨e1, e2⟩ := low_eq (c := c) (b := b) (p := p) (q := q) (by omega) (by omega) h2
    rw [e1, e2]
  · have k : (b * b + 4 * a * c) * (q * q) = (2 * a * p + b * q) * (2 * a * p + b * q) := by grind
    obtain ⟨m, hm⟩ : q ∣ (2 * a * p + b * q) := dvd_sq ⟨b * b + 4 * a * c, by rw [← k, Int.mul_comm]⟩
    have qq : 0 < q * q := Int.mul_pos (by omega) (by omega)
    have d : b * b + 4 * a * c = m * m := by
      refine cancel qq ?_
      rw [hm] at k
      grind
    have hac : 0 < 4 * a * c := Int.mul_pos (by omega) (by omega)
    -- the root is m itself
    have m0 : 0 ≤ m := by
      refine Classical.byContradiction fun z => ?_
      have r := rt_gt (b := b) (r := -m) hac (by omega) (by rw [d]; grind)
      have e1 : 2 * a * p = q * (m - b) := by
        have : q * (m - b) = q * m - b * q := by grind
        omega
      have e2 : 0 ≤ 2 * a * p := Int.mul_nonneg (by omega) hp
      have e3 : q * (m - b) < 0 := Int.mul_neg_of_pos_of_neg (by omega) (by omega)
      omega
    have er : rt (b * b + 4 * a * c) = m := by
      refine (rt_of ⟨m0, by omega, ?_⟩).symm
      have : (m + 1) * (m + 1) = m * m + 2 * m + 1 := by grind
      omega
    unfold parts
    rw [if_neg (by omega), er, if_pos (by omega)]
    have h2 : (m - b) * q = p * (2 * a) := by
      have : (m - b) * q = q * m - b * q := by grind
      have : p * (2 * a) = 2 * a * p := by grind
      omega
    obtain ⟨e1, e2⟩ := low_eq (c := m - b) (b := 2 * a) (p := p) (q := q) (by omega) (by omega) h2
    rw [e1, e2]
/-- one equation a multiple of the other -/
theorem parts_prop {a b c a' b' c' : Int} (g : Good a b c) (g' : Good a' b' c') (h1 : a' * b = a * b') (h2 : a' * c = a * c') (h3 : b' * c = b * c') : parts a b c = parts a' b' c' := by
  rcases g with ⟨rfl, b0, c0⟩ | ⟨a0, c0⟩
  · have a1 : a' = 0 := by
      rw [Int.zero_mul] at h1
      rcases Int.mul_eq_zero.mp h1 with z | z <;> omega
    subst a1
    rcases g' with ⟨_, b0', c0'⟩ | g'
    · rw [rat_root (p := c) (q := b) (.inl ⟨rfl, b0, c0⟩) c0 b0 (by grind), rat_root (p := c) (q := b) (.inl ⟨rfl, b0', c0'⟩) c0 b0 ?_]
      have : b' * c * b = b * c' * b := by rw [h3]
      grind
    · omega
  · have gg : 1 ≤ a' ∧ 1 ≤ c' := by
      rcases g' with ⟨rfl, b1, c1⟩ | g'
      · rw [Int.zero_mul] at h1
        rcases Int.mul_eq_zero.mp h1.symm with z | z <;> omega
      · exact g'
    obtain ⟨a0', c0'⟩ := gg
    have ip := inside_pos (b := b) ⟨a0, c0⟩
    have ip' := inside_pos (b := b') ⟨a0', c0'⟩
    -- a root that is a fraction serves both
    have one : ∀ {r : Int}, 0 ≤ r → b * b + 4 * a * c = r * r → parts a b c = parts a' b' c' := fun {r} r0 e => by
      have rg := rt_gt ip.1 r0 e
      rw [rat_root (p := r - b) (q := 2 * a) (.inr ⟨a0, c0⟩) (by omega) (by omega) (by grind), rat_root (p := r - b) (q := 2 * a) (.inr ⟨a0', c0'⟩) (by omega) (by omega) ?_]
      refine cancel (a := a) (by omega) ?_
      have k : a' * (a * (r - b) * (r - b) + b * (r - b) * (2 * a)) = a' * (c * (2 * a) * (2 * a)) := by
        congr 1
        grind
      grind
    have two : ∀ {r : Int}, 0 ≤ r → b' * b' + 4 * a' * c' = r * r → parts a b c = parts a' b' c' := fun {r} r0 e => by
      have rg := rt_gt ip'.1 r0 e
      rw [rat_root (p := r - b') (q := 2 * a') (.inr ⟨a0', c0'⟩) (by omega) (by omega) (by grind), rat_root (p := r - b') (q := 2 * a') (.inr ⟨a0, c0⟩) (by omega) (by omega) ?_]
      refine cancel (a := a') (by omega) ?_
      have k : a * (a' * (r - b') * (r - b') + b' * (r - b') * (2 * a')) = a * (c' * (2 * a') * (2 * a')) := by
        congr 1
        grind
      grind
    by_cases e : rt (b * b + 4 * a * c) * rt (b * b + 4 * a * c) = b * b + 4 * a * c
    · exact one (rt_is ip.2).1 e.symm
    · by_cases e' : rt (b' * b' + 4 * a' * c') * rt (b' * b' + 4 * a' * c') = b' * b' + 4 * a' * c'
      · exact two (rt_is ip'.2).1 e'.symm
      · unfold parts
        rw [if_neg (by omega), if_neg e, if_neg (by omega), if_neg e']
        have G0 : 0 < gc (gc a b) c := gc_pos (.inr (by omega))
        have G0' : 0 < gc (gc a' b') c' := gc_pos (.inr (by omega))
        have eg : a' * gc (gc a b) c = a * gc (gc a' b') c' := by
          rw [← gc_mul (by omega), ← gc_mul (by omega), ← gc_mul (by omega), ← gc_mul (by omega), h1, h2, Int.mul_comm a' a]
        have x1 := ex_mul (Int.dvd_trans (gc_dvd1 (gc a b) c) (gc_dvd1 a b)) G0
        have x2 := ex_mul (Int.dvd_trans (gc_dvd1 (gc a b) c) (gc_dvd2 a b)) G0
        have x3 := ex_mul (gc_dvd2 (gc a b) c) G0
        have y1 := ex_mul (Int.dvd_trans (gc_dvd1 (gc a' b') c') (gc_dvd1 a' b')) G0'
        have y2 := ex_mul (Int.dvd_trans (gc_dvd1 (gc a' b') c') (gc_dvd2 a' b')) G0'
        have y3 := ex_mul (gc_dvd2 (gc a' b') c') G0'
        generalize a / gc (gc a b) c = A at *
        generalize b / gc (gc a b) c = B at *
        generalize c / gc (gc a b) c = D at *
        generalize a' / gc (gc a' b') c' = A' at *
        generalize b' / gc (gc a' b') c' = B' at *
        generalize c' / gc (gc a' b') c' = D' at *
        generalize gc (gc a b) c = G at *
        generalize gc (gc a' b') c' = G' at *
        have gg : 0 < G * G' := Int.mul_pos G0 G0'
        have ea : A = A' := by
          refine cancel gg ?_
          rw [x1, y1] at eg
          grind
        subst ea
        have Ap : 0 < A := by
          refine Classical.byContradiction fun z => ?_
          have := Int.mul_nonpos_of_nonneg_of_nonpos (Int.le_of_lt G0) (Int.not_lt.mp z)
          omega
        have ga : 0 < G * G' * A := Int.mul_pos gg Ap
        have eb : B = B' := by
          refine cancel ga ?_
          rw [x1, x2, y1, y2] at h1
          grind
        have ed : D = D' := by
          refine cancel ga ?_
          rw [x1, x3, y1, y3] at h2
          grind
        rw [eb, ed]
end RL

namespace RL
theorem mul_ab {x y X Y : Int} (hx : -X ≤ x ∧ x ≤ X) (hy : -Y ≤ y ∧ y ≤ Y) : -(X * Y) ≤ x * y ∧ x * y ≤ X * Y := by
  have X0 : 0 ≤ X := by omega
  have Y0 : 0 ≤ Y := by omega
  have a1 := Int.mul_nonneg (show 0 ≤ X - x by omega) (show 0 ≤ Y - y by omega)
  have a2 := Int.mul_nonneg (show 0 ≤ X + x by omega) (show 0 ≤ Y + y by omega)
  have a3 := Int.mul_nonneg (show 0 ≤ X - x by omega) (show 0 ≤ Y + y by omega)
  have a4 := Int.mul_nonneg (show 0 ≤ X + x by omega) (show 0 ≤ Y - y by omega)
  have e1 : (X - x) * (Y - y) = X * Y - X * y - x * Y + x * y := by grind
  have e2 : (X + x) * (Y + y) = X * Y + X * y + x * Y + x * y := by grind
  have e3 : (X - x) * (Y + y) = X * Y + X * y - x * Y - x * y := by grind
  have e4 : (X + x) * (Y - y) = X * Y - X * y + x * Y - x * y := by grind
  constructor <;> omega
structure Tiny (a b c : Int) : Prop where
  good : Good a b c
  ha : a ≤ 60
  hb : -61 ≤ b ∧ b ≤ 61
  hc : c ≤ 60
theorem Tiny.nn {a b c : Int} (h : Tiny a b c) : 0 ≤ a ∧ 0 ≤ c := by
  rcases h.good with g | g <;> omega
/-- how far the integer below is off -/
theorem off {a b c n N : Int} (t : Tiny a b c) (hN : 1 ≤ N) (hn : 0 ≤ n) (h1 : 0 ≤ Fv a b c n N) (h2 : Fv a b c (n + 1) N < 0) : n ≤ 62 * N ∧ Fv a b c n N ≤ 8000 * N := by
  obtain ⟨a0, c0⟩ := t.nn
  have nb : n ≤ 62 * N := by
    refine Classical.byContradiction fun q => ?_
    have q' : 62 * N < n := by omega
    rcases t.good with ⟨rfl, b0, _⟩ | ⟨a1, c1⟩
    · have e : Fv 0 b c n N = N * (c * N - b * n) := by unfold Fv; grind
      have k1 : n ≤ b * n := by
        have := Int.mul_le_mul_of_nonneg_right (a := 1) (b := b) (c := n) b0 hn
        omega
      have k2 : c * N ≤ 60 * N := Int.mul_le_mul_of_nonneg_right t.hc (by omega)
      have := Int.mul_neg_of_pos_of_neg (a := N) (b := c * N - b * n) (by omega) (by omega)
      omega
    · have k1 : n * n ≤ a * (n * n) := by
        have := Int.mul_le_mul_of_nonneg_right (a := 1) (b := a) (c := n * n) a1 (Int.mul_nonneg hn hn)
        omega
      have k2 : -61 * (n * N) ≤ b * (n * N) := Int.mul_le_mul_of_nonneg_right t.hb.1 (Int.mul_nonneg hn (by omega))
      have k3 : c * (N * N) ≤ 60 * (N * N) := Int.mul_le_mul_of_nonneg_right t.hc (Int.mul_nonneg (by omega) (by omega))
      have k4 : 62 * N * N ≤ n * (n - 61 * N) := Int.mul_le_mul (by omega) (by omega) (by omega) hn
      have e1 : Fv a b c n N = c * (N * N) - b * (n * N) - a * (n * n) := by unfold Fv; grind
      have e2 : n * (n - 61 * N) = n * n - 61 * (n * N) := by grind
      have e3 : 62 * N * N = 62 * (N * N) := by grind
      have k5 : 0 < N * N := Int.mul_pos (by omega) (by omega)
      omega
  refine ⟨nb, ?_⟩
  have e : Fv a b c n N - Fv a b c (n + 1) N = a * (2 * n + 1) + b * N := by unfold Fv; grind
  have k1 : a * (2 * n + 1) ≤ 60 * (2 * n + 1) := Int.mul_le_mul_of_nonneg_right t.ha (by omega)
  have k2 : b * N ≤ 61 * N := Int.mul_le_mul_of_nonneg_right t.hb.2 (by omega)
  omega
theorem sep {a b c a' b' c' n : Int} (t : Tiny a b c) (t' : Tiny a' b' c') (hn : 0 ≤ n)
    (h1 : 0 ≤ Fv a b c n 1000000000000000000000000000000) (h2 : Fv a b c (n + 1) 1000000000000000000000000000000 < 0)
    (h1' : 0 ≤ Fv a' b' c' n 1000000000000000000000000000000) (h2' : Fv a' b' c' (n + 1) 1000000000000000000000000000000 < 0) : parts a b c = parts a' b' c' := by
  obtain ⟨nb, k1⟩ := off t (by decide) hn h1 h2
  obtain ⟨_, k1'⟩ := off t' (by decide) hn h1' h2'
  obtain ⟨a0, c0⟩ := t.nn
  obtain ⟨a0', c0'⟩ := t'.nn
  have bA := t.ha
  have bA' := t'.ha
  have bC := t.hc
  have bC' := t'.hc
  have e1 : a' * Fv a b c n 1000000000000000000000000000000 - a * Fv a' b' c' n 1000000000000000000000000000000 = -(1000000000000000000000000000000 * ((a' * b - a * b') * n - (a' * c - a * c') * 1000000000000000000000000000000)) := by unfold Fv; grind
  have m1 := mul_ab (x := a') (y := Fv a b c n 1000000000000000000000000000000) (X := 60) (Y := 8000 * 1000000000000000000000000000000) (by omega) (by omega)
  have m1' := mul_ab (x := a) (y := Fv a' b' c' n 1000000000000000000000000000000) (X := 60) (Y := 8000 * 1000000000000000000000000000000) (by omega) (by omega)
  have m1n : 0 ≤ a' * Fv a b c n 1000000000000000000000000000000 := Int.mul_nonneg a0' h1
  have m1n' : 0 ≤ a * Fv a' b' c' n 1000000000000000000000000000000 := Int.mul_nonneg a0 h1'
  -- the line's rest
  have eps : -480000 ≤ (a' * b - a * b') * n - (a' * c - a * c') * 1000000000000000000000000000000 ∧ (a' * b - a * b') * n - (a' * c - a * c') * 1000000000000000000000000000000 ≤ 480000 := by omega
  have s1 := mul_ab (x := a') (y := b) (X := 60) (Y := 61) (by omega) t.hb
  have s2 := mul_ab (x := a) (y := b') (X := 60) (Y := 61) (by omega) t'.hb
  have s3 := mul_ab (x := a') (y := c) (X := 60) (Y := 60) (by omega) (by omega)
  have s4 := mul_ab (x := a) (y := c') (X := 60) (Y := 60) (by omega) (by omega)
  have hs : -7320 ≤ a' * b - a * b' ∧ a' * b - a * b' ≤ 7320 := by omega
  have hh : -7200 ≤ a' * c - a * c' ∧ a' * c - a * c' ≤ 7200 := by omega
  -- the equation's own rest at the line's zero
  have rest : ∀ (u v w : Int), Tiny u v w → 0 ≤ Fv u v w n 1000000000000000000000000000000 → Fv u v w n 1000000000000000000000000000000 ≤ 8000 * 1000000000000000000000000000000 →
      w * (a' * b - a * b') * (a' * b - a * b') - v * (a' * c - a * c') * (a' * b - a * b') - u * (a' * c - a * c') * (a' * c - a * c') = 0 := fun u v w tt f0 f1 => by
    obtain ⟨u0, w0⟩ := tt.nn
    have bu := tt.ha
    have bv := tt.hb
    generalize a' * b - a * b' = S at *
    generalize a' * c - a * c' = T at *
    generalize ee : S * n - T * 1000000000000000000000000000000 = ε at *
    have key : 1000000000000000000000000000000 * (1000000000000000000000000000000 * (w * S * S - v * T * S - u * T * T)) = S * S * Fv u v w n 1000000000000000000000000000000 + 1000000000000000000000000000000 * (ε * (v * S + 2 * u * T)) + u * (ε * ε) := by
      unfold Fv
      subst ee
      grind
    have q1 := mul_ab (x := S) (y := S) hs hs
    have q2 := mul_ab (x := S * S) (y := Fv u v w n 1000000000000000000000000000000) (X := 7320 * 7320) (Y := 8000 * 1000000000000000000000000000000) q1 (by omega)
    have q3 := mul_ab (x := v) (y := S) bv hs
    have q4 := mul_ab (x := u) (y := T) (X := 60) (Y := 7200) (by omega) hh
    have q5 := mul_ab (x := ε) (y := v * S + 2 * u * T) (X := 480000) (Y := 61 * 7320 + 2 * (60 * 7200)) eps (by
      have : 2 * u * T = 2 * (u * T) := by grind
      omega)
    have q6 := mul_ab (x := ε) (y := ε) eps eps
    have q7 := mul_ab (x := u) (y := ε * ε) (X := 60) (Y := 480000 * 480000) (by omega) q6
    omega
  have R := rest a b c t h1 k1
  have R' := rest a' b' c' t' h1' k1'
  have g := t.good
  have g' := t'.good
  by_cases z : a' * b - a * b' = 0
  · rw [z] at eps
    have z2 : a' * c - a * c' = 0 := by
      generalize a' * c - a * c' = T at *
      omega
    rcases g with ⟨rfl, b0, _⟩ | ⟨a1, c1⟩
    · have az : a' = 0 := by
        have : a' * b = 0 := by omega
        rcases Int.mul_eq_zero.mp this with y | y <;> omega
      subst az
      rcases g' with ⟨_, b0', _⟩ | g'
      · -- two fractions
        have bb := t.hb
        have bb' := t'.hb
        have e2 : Fv 0 b c n 1000000000000000000000000000000 - Fv 0 b c (n + 1) 1000000000000000000000000000000 = b * 1000000000000000000000000000000 := by unfold Fv; grind
        have e2' : Fv 0 b' c' n 1000000000000000000000000000000 - Fv 0 b' c' (n + 1) 1000000000000000000000000000000 = b' * 1000000000000000000000000000000 := by unfold Fv; grind
        have e3 : b' * Fv 0 b c n 1000000000000000000000000000000 - b * Fv 0 b' c' n 1000000000000000000000000000000 = 1000000000000000000000000000000 * (1000000000000000000000000000000 * (b' * c - b * c')) := by unfold Fv; grind
        have w1 := mul_ab (x := b') (y := Fv 0 b c n 1000000000000000000000000000000) (X := 61) (Y := 61 * 1000000000000000000000000000000) (by omega) (by omega)
        have w2 := mul_ab (x := b) (y := Fv 0 b' c' n 1000000000000000000000000000000) (X := 61) (Y := 61 * 1000000000000000000000000000000) (by omega) (by omega)
        refine parts_prop t.good t'.good (by omega) (by omega) ?_
        generalize b' * c = M at *
        generalize b * c' = M' at *
        omega
      · omega
    · refine parts_prop t.good t'.good (by omega) (by omega) ?_
      refine cancel (a := a) (by omega) ?_
      have y1 : a' * b = a * b' := by omega
      have y2 : a' * c = a * c' := by omega
      have : a * (b' * c) = a * b' * c := by grind
      rw [this, ← y1]
      have : a * (b * c') = b * (a * c') := by grind
      rw [this, ← y2]
      grind
  · generalize a' * b - a * b' = S at *
    generalize a' * c - a * c' = T at *
    rcases Int.lt_or_le 0 S with sp | sp
    · have T0 : 0 ≤ T := by
        have := Int.mul_nonneg (Int.le_of_lt sp) hn
        omega
      rw [rat_root (p := T) (q := S) t.good T0 sp (by grind), rat_root (p := T) (q := S) t'.good T0 sp (by grind)]
    · have T0 : 0 ≤ -T := by
        have := Int.mul_nonneg (show 0 ≤ -S by omega) hn
        have e : -S * n = -(S * n) := by grind
        omega
      rw [rat_root (p := -T) (q := -S) t.good T0 (by omega) (by grind), rat_root (p := -T) (q := -S) t'.good T0 (by omega) (by grind)]
end RL

namespace RL
theorem Nrm.fv {a b c s l w x y : Int} (N : Nrm a b c s l w) (hx : 0 ≤ x) (hy : 1 ≤ y) : (Fv s l w x y < 0 ↔ Fv a b c x y < 0) ∧ (0 ≤ Fv s l w x y ↔ 0 ≤ Fv a b c x y) := by
  obtain ⟨k1, k2⟩ := N.sgn x y hx hy
  have e : Fv a b c x y = -(a * x * x + b * x * y - c * y * y) := by unfold Fv; omega
  have e2 : Fv s l w x y = w * y * y - l * x * y - s * x * x := rfl
  rw [e, e2]
  generalize w * y * y - l * x * y - s * x * x = u at *
  generalize a * x * x + b * x * y - c * y * y = v at *
  constructor <;> constructor <;> intro h <;> omega
theorem sg_nn {n : Int} (h : 0 ≤ sg n) : 0 ≤ n := by
  refine Classical.byContradiction fun z => ?_
  rw [sg_neg (by omega)] at h
  omega
theorem sg_m1 {n : Int} (h : sg n = -1) : n < 0 := by
  refine Classical.byContradiction fun z => ?_
  rcases Int.lt_or_le 0 n with q | q
  · rw [sg_pos q] at h
    omega
  · have : n = 0 := by omega
    subst this
    rw [sg_zero] at h
    omega
theorem flo_fv {a b c t : Int} (g : Good a b c) (ht : 1 ≤ t) : 0 ≤ flo a b c t ∧ 0 ≤ Fv a b c (flo a b c t) t ∧ Fv a b c (flo a b c t + 1) t < 0 := by
  obtain ⟨h0, h1, h2⟩ := flo_is g ht
  exact ⟨h0, sg_nn h1, sg_m1 h2⟩
abbrev ordP (p q : Int × Int × Int) : Int := ord p.1 p.2.1 p.2.2 q.1 q.2.1 q.2.2
theorem flo_lt {a b c a' b' c' t : Int} (g : Good a b c) (g' : Good a' b' c') (ht : 1 ≤ t) (h : flo a b c t < flo a' b' c' t) : ordP (parts a b c) (parts a' b' c') = -1 ∧ ordP (parts a' b' c') (parts a b c) = 1 := by
  obtain ⟨h0, h1, h2⟩ := flo_fv g ht
  obtain ⟨h0', h1', h2'⟩ := flo_fv g' ht
  have N := parts_nrm g
  have N' := parts_nrm g'
  have k : Fv a b c (flo a' b' c' t) t < 0 := fv_down g (by omega) ht h0' ht h2 (Int.mul_le_mul_of_nonneg_right (by omega) (by omega))
  have f := (N.fv h0' ht).1.mpr k
  have f' := (N'.fv h0' ht).2.mpr h1'
  exact ⟨ord_lt N.good N'.good h0' ht f f', ord_gt N.good N'.good h0' ht f f'⟩
def dueAt (a b c a' b' c' : Int) : List Nat → Int
  | [] => 0
  | n :: r => if flo a b c (10 ^ n) = flo a' b' c' (10 ^ n) then dueAt a b c a' b' c' r else if flo a b c (10 ^ n) < flo a' b' c' (10 ^ n) then -1 else 1
def dueV (a b c a' b' c' : Int) : Int := if parts a b c = parts a' b' c' then 0 else dueAt a b c a' b' c' [3, 12, 30]
theorem ten_pos (n : Nat) : (1 : Int) ≤ 10 ^ n := by
  have e : ((10 ^ n : Nat) : Int) = 10 ^ n := by rw [Int.natCast_pow]; rfl
  have : 0 < 10 ^ n := Nat.pow_pos (by decide)
  rw [← e]
  omega
theorem dueAt_ok {a b c a' b' c' : Int} (g : Good a b c) (g' : Good a' b' c') : ∀ ns : List Nat, (∃ n ∈ ns, flo a b c (10 ^ n) ≠ flo a' b' c' (10 ^ n)) →
    ordP (parts a b c) (parts a' b' c') = dueAt a b c a' b' c' ns ∧ ordP (parts a' b' c') (parts a b c) = -dueAt a b c a' b' c' ns ∧ dueAt a b c a' b' c' ns ≠ 0
  | [], h => by
    obtain ⟨n, hn, _⟩ := h
    cases hn
  | n :: r, h => by
    unfold dueAt
    split
    · rename_i e
      refine dueAt_ok g g' r ?_
      obtain ⟨m, hm, q⟩ := h
      rcases List.mem_cons.mp hm with rfl | hm
      · exact absurd e q
      · exact ⟨m, hm, q⟩
    · rename_i e
      split
      · rename_i l
        obtain ⟨q1, q2⟩ := flo_lt g g' (ten_pos n) l
        exact ⟨q1, q2, by decide⟩
      · rename_i l
        obtain ⟨q1, q2⟩ := flo_lt g' g (ten_pos n) (show flo a' b' c' (10 ^ n) < flo a b c (10 ^ n) by omega)
        exact ⟨q2, q1, by decide⟩
theorem due_ok {a b c a' b' c' : Int} (g : Good a b c) (g' : Good a' b' c') (t : parts a b c = parts a' b' c' ∨ (Tiny a b c ∧ Tiny a' b' c')) :
    ordP (parts a b c) (parts a' b' c') = dueV a b c a' b' c' ∧ ordP (parts a' b' c') (parts a b c) = -dueV a b c a' b' c' ∧ (dueV a b c a' b' c' = 0 ↔ parts a b c = parts a' b' c') := by
  unfold dueV
  by_cases e : parts a b c = parts a' b' c'
  · rw [if_pos e, ← e]
    have N := parts_nrm g
    refine ⟨ord_self N.good, ?_, fun _ => rfl, fun _ => rfl⟩
    show ord _ _ _ _ _ _ = -0
    rw [ord_self N.good]
    rfl
  · rw [if_neg e]
    rcases t with t | ⟨t, t'⟩
    · exact absurd t e
    · have k : ∃ n ∈ [3, 12, 30], flo a b c (10 ^ n) ≠ flo a' b' c' (10 ^ n) := by
        refine ⟨30, by simp, fun z => e ?_⟩
        have e30 : (10 : Int) ^ 30 = 1000000000000000000000000000000 := by decide
        rw [e30] at z
        obtain ⟨h0, h1, h2⟩ := flo_fv g (t := 1000000000000000000000000000000) (by decide)
        obtain ⟨h0', h1', h2'⟩ := flo_fv g' (t := 1000000000000000000000000000000) (by decide)
        rw [← z] at h1' h2'
        exact sep t t' h0 h1 h2 h1' h2'
      obtain ⟨q1, q2, q3⟩ := dueAt_ok g g' _ k
      exact ⟨q1, q2, fun z => absurd z q3, fun z => absurd z e⟩
/-! ### k + sqrt(k * k + 1) and sqrt(4 * k * k + 2) -/
theorem gc_one (x : Int) : gc 1 x = 1 := by
  unfold gc
  simp
theorem near1 {k : Int} (hk : 1 ≤ k) : parts 1 (-2 * k) 1 = (1, -2 * k, 1) := by
  have r : rt (-2 * k * (-2 * k) + 4 * 1 * 1) = 2 * k := by
    refine (rt_of ⟨by omega, ?_, ?_⟩).symm
    · have : 2 * k * (2 * k) = -2 * k * (-2 * k) := by grind
      omega
    · have e1 : (2 * k + 1) * (2 * k + 1) = -2 * k * (-2 * k) + 4 * k + 1 := by grind
      omega
  unfold parts
  rw [if_neg (by decide), r, if_neg ?_]
  · have g2 : gc 1 1 = 1 := by decide
    rw [gc_one, g2]
    simp
  · have : 2 * k * (2 * k) = -2 * k * (-2 * k) := by grind
    omega
theorem near2 {k : Int} (hk : 1 ≤ k) : parts 1 0 (4 * k * k + 2) = (1, 0, 4 * k * k + 2) := by
  have e0 : 0 * 0 + 4 * 1 * (4 * k * k + 2) = 16 * (k * k) + 8 := by grind
  have r : rt (0 * 0 + 4 * 1 * (4 * k * k + 2)) = 4 * k := by
    rw [e0]
    refine (rt_of ⟨by omega, ?_, ?_⟩).symm
    · have : 4 * k * (4 * k) = 16 * (k * k) := by grind
      omega
    · have e1 : (4 * k + 1) * (4 * k + 1) = 16 * (k * k) + 8 * k + 1 := by grind
      omega
  unfold parts
  rw [if_neg (by decide), r, if_neg ?_]
  · rw [gc_one, gc_one]
    simp
  · rw [e0]
    have : 4 * k * (4 * k) = 16 * (k * k) := by grind
    omega
theorem near_ord {k : Int} (hk : 1 ≤ k) : ord 1 (-2 * k) 1 1 0 (4 * k * k + 2) = -1 ∧ ord 1 0 (4 * k * k + 2) 1 (-2 * k) 1 = 1 := by
  have kk : 0 ≤ k * k := sq_nn k
  have e4 : 4 * k * k = 4 * (k * k) := by grind
  refine ⟨?_, ?_⟩
  · unfold ord
    rw [if_neg (by decide)]
    have a1 : -2 * k * 1 - 0 * 1 = -(2 * k) := by omega
    have a2 : 1 * 1 - (4 * k * k + 2) * 1 = -(4 * k * k + 1) := by omega
    rw [a1, a2]
    unfold sal sal0
    rw [if_pos (by omega), if_neg (by omega), Int.neg_neg, Int.neg_neg, Int.neg_neg]
    have f : beside 1 0 (4 * k * k + 2) (4 * k * k + 1) (2 * k) = -1 := by
      refine sg_neg ?_
      have : (4 * k * k + 2) * (2 * k) * (2 * k) - 0 * (4 * k * k + 1) * (2 * k) - 1 * (4 * k * k + 1) * (4 * k * k + 1) = -1 := by grind
      omega
    rw [f]
  · unfold ord
    rw [if_neg (by decide)]
    have a1 : 0 * 1 - -2 * k * 1 = 2 * k := by omega
    have a2 : (4 * k * k + 2) * 1 - 1 * 1 = 4 * k * k + 1 := by omega
    rw [a1, a2]
    unfold sal sal0
    rw [if_neg (by omega), if_neg (by omega)]
    have f : beside 1 (-2 * k) 1 (4 * k * k + 1) (2 * k) = -1 := by
      refine sg_neg ?_
      have : 1 * (2 * k) * (2 * k) - -2 * k * (4 * k * k + 1) * (2 * k) - 1 * (4 * k * k + 1) * (4 * k * k + 1) = -1 := by grind
      omega
    rw [f]
    decide
/-! ### a number and a fraction -/
theorem sg_scale {k u : Int} (hk : 0 < k) : sg (k * u) = sg u := by
  have q := pos_iff (u := u) hk
  unfold sg
  by_cases p : 0 < u
  · rw [if_pos p, if_pos (q.1.mpr p)]
  · by_cases z : u = 0
    · subst z
      rw [Int.mul_zero]
    · have h1 : ¬ 0 < k * u := fun t => p (q.1.mp t)
      have h2 : ¬ k * u = 0 := fun t => z (q.2.mp t)
      rw [if_neg p, if_pos (show u < 0 by omega), if_neg h1, if_pos (show k * u < 0 by omega)]
theorem sg_opp (u : Int) : sg (-u) = -sg u := by
  unfold sg
  by_cases p : 0 < u
  · rw [if_pos p, if_neg (by omega), if_pos (by omega)]
  · by_cases z : u < 0
    · rw [if_neg p, if_pos z, if_pos (by omega)]
      decide
    · rw [if_neg p, if_neg z, if_neg (by omega), if_neg (by omega)]
      decide
theorem ord_frac {a b c y v : Int} (g : Good a b c) (hy : 1 ≤ y) (hv : 0 ≤ v) : ordP (parts a b c) (parts 0 y v) = side a b c v y ∧ ordP (parts 0 y v) (parts a b c) = -side a b c v y := by
  have N := parts_nrm g
  have g0 : 0 < gc v y := gc_pos (.inr (by omega))
  have ey := ex_mul (gc_dvd2 v y) g0
  have ev := ex_mul (gc_dvd1 v y) g0
  have epr : parts 0 y v = (0, y / gc v y, v / gc v y) := by unfold parts; rw [if_pos rfl]
  rw [epr]
  have y1 : 1 ≤ y / gc v y := by
    refine Classical.byContradiction fun z => ?_
    have := Int.mul_nonpos_of_nonneg_of_nonpos (a := gc v y) (b := y / gc v y) (by omega) (by omega)
    omega
  have v1 : 0 ≤ v / gc v y := Int.ediv_nonneg hv (by omega)
  have es : side a b c v y = side a b c (v / gc v y) (y / gc v y) := by
    have := side_same (a := a) (b := b) (c := c) (x := v / gc v y) (y := y / gc v y) (k := gc v y) (by omega) y1
    rw [← ev, ← ey] at this
    exact this
  rw [es, ← N.side v1 y1]
  generalize y / gc v y = Y at *
  generalize v / gc v y = W at *
  have gd := N.good
  show ord (parts a b c).1 (parts a b c).2.1 (parts a b c).2.2 0 Y W = _ ∧ ord 0 Y W (parts a b c).1 (parts a b c).2.1 (parts a b c).2.2 = _
  generalize (parts a b c).1 = s at *
  generalize (parts a b c).2.1 = l at *
  generalize (parts a b c).2.2 = w at *
  refine ⟨?_, ?_⟩
  · unfold ord
    rw [if_pos rfl]
  · unfold ord
    split
    · rename_i z
      subst z
      rcases gd with ⟨_, l0, w0⟩ | ⟨zz, _⟩
      · unfold beside
        have e1 : W * l * l - Y * w * l - 0 * w * w = l * (W * l - Y * w) := by grind
        have e2 : w * Y * Y - l * W * Y - 0 * W * W = Y * -(W * l - Y * w) := by grind
        rw [e1, e2, sg_scale (by omega), sg_scale (by omega), sg_opp, Int.neg_neg]
      · omega
    · rename_i z
      have s0 : 1 ≤ s := by rcases gd with g | g <;> omega
      rw [Int.mul_zero, Int.mul_zero, Int.sub_zero, Int.sub_zero]
      have p1 : 0 < Y * s := Int.mul_pos (by omega) (by omega)
      have p2 : 0 ≤ W * s := Int.mul_nonneg v1 (by omega)
      unfold sal sal0
      rw [if_neg (by omega), if_neg (by omega)]
      unfold beside
      have e1 : w * (Y * s) * (Y * s) - l * (W * s) * (Y * s) - s * (W * s) * (W * s) = s * s * (w * Y * Y - l * W * Y - s * W * W) := by grind
      rw [e1, sg_scale (Int.mul_pos (by omega) (by omega))]
end RL

/-! The texts of numbers, and that repr of what is told fits. -/
namespace RL
open PySem L2
def ts (i : Int) : Str := Str.ofString (toString i)
structure OkT (n : Nat) (x : Str) : Prop where
  len : x.length ≤ n
  cps : ∀ c ∈ x.cps.toList, c < 16 ^ 8
theorem OkT.mono {m n : Nat} {x : Str} (h : OkT m x) (l : m ≤ n) : OkT n x := ⟨Nat.le_trans h.len l, h.cps⟩
theorem OkT.of (s : String) : OkT s.length (Str.ofString s) := by
  refine ⟨Nat.le_of_eq (ofString_length s), fun c hc => ?_⟩
  rw [PyProof.Rows.signs_ofString] at hc
  obtain ⟨ch, _, rfl⟩ := List.mem_map.mp hc
  have h1 : ch.toNat < 2 ^ 32 := ch.val.toNat_lt
  have h2 : (16 : Nat) ^ 8 = 2 ^ 32 := by decide
  omega
theorem OkT.app {m n : Nat} {x y : Str} (h : OkT m x) (k : OkT n y) : OkT (m + n) (x ++ y) := by
  refine ⟨?_, fun c hc => ?_⟩
  · rw [Str.length_append]
    have := h.len
    have := k.len
    omega
  · have e : (x ++ y).cps.toList = x.cps.toList ++ y.cps.toList := by
      show (x.cps ++ y.cps).toList = _
      rw [Array.toList_append]
    rw [e] at hc
    exact (List.mem_append.mp hc).elim (h.cps c) (k.cps c)
theorem log_sm {n : Nat} {i : Int} (hn : 0 < n) (h : Sm n i) : i.natAbs.log2 < n := PySem.Flt.log2_lt_of hn h
theorem ts_ok {i : Int} (h : Sm 200 i) : OkT 201 (ts i) := (OkT.of (toString i)).mono (int_text_length_le (by decide) (log_sm (by decide) h))
theorem show_int {i : Int} (h : Sm 200 i) : (PyData.int i).showable = true ∧ (PyData.int i).leavesShort 300 = true ∧ (PyData.int i).weight ≤ 200 := by
  have l := log_sm (by decide) h
  refine ⟨?_, ?_, ?_⟩
  · show decide (i.natAbs.log2 < 1920) = true
    exact decide_eq_true (by omega)
  · show decide ((PyData.shown (.int i)).length ≤ 300) = true
    refine decide_eq_true ?_
    have e : PyData.shown (.int i) = ts i := rfl
    rw [e]
    exact Nat.le_trans (ts_ok h).len (by decide)
  · show (if i == 0 then 0 else i.natAbs.log2 + 1) ≤ 200
    split <;> omega
theorem show_str {n : Nat} {x : Str} (h : OkT n x) : (PyData.str x).leavesShort 300 = true ∧ (PyData.str x).weight ≤ n := by
  refine ⟨?_, h.len⟩
  show (x.cps.toList.all fun c => decide (c < 16 ^ 8)) = true
  rw [List.all_eq_true]
  exact fun c hc => decide_eq_true (h.cps c hc)
structure Shows (d : PyData) : Prop where
  s : d.showable = true
  n : d.hasDict = false
  p : d.depth ≤ 40
  l : d.shown.length ≤ sizeLine
/-- the four things that are told of a number -/
theorem shows_root {a b c : Int} {x y : Str} (ha : Sm 200 a) (hb : Sm 200 b) (hc : Sm 200 c) (hx : OkT 2000 x) (hy : OkT 2000 y) : Shows (.list [.tuple [.int a, .int b, .int c], .none, .str x, .str y]) := by
  obtain ⟨a1, a2, a3⟩ := show_int ha
  obtain ⟨b1, b2, b3⟩ := show_int hb
  obtain ⟨c1, c2, c3⟩ := show_int hc
  obtain ⟨x1, x2⟩ := show_str hx
  obtain ⟨y1, y2⟩ := show_str hy
  refine ⟨?_, rfl, (by simp [PyData.depth, PyData.depthAll]), ?_⟩
  · simp only [PyData.showable, PyData.showableAll] at a1 b1 c1 ⊢
    simp [a1, b1, c1]
  · have hl : (PyData.list [.tuple [.int a, .int b, .int c], .none, .str x, .str y]).leavesShort 300 = true := by
      simp only [PyData.leavesShort, PyData.leavesShortAll] at a2 b2 c2 x1 y1 ⊢
      simp only [a2, b2, c2, x1, y1, Bool.and_self]
    have hw := PyData.shown_le 300 (by decide) _ hl
    have e : (PyData.list [.tuple [.int a, .int b, .int c], .none, .str x, .str y]).weight = ((PyData.int a).weight + 1 + ((PyData.int b).weight + 1 + ((PyData.int c).weight + 1 + 0))) + 1 + (0 + 1 + ((PyData.str x).weight + 1 + ((PyData.str y).weight + 1 + 0))) := rfl
    rw [e] at hw
    rw [sizeLine_eq]
    omega
theorem shows_frac {a b c d e : Int} {x y : Str} (ha : Sm 200 a) (hb : Sm 200 b) (hc : Sm 200 c) (hd : Sm 200 d) (he : Sm 200 e) (hx : OkT 2000 x) (hy : OkT 2000 y) : Shows (.list [.tuple [.int a, .int b, .int c], .tuple [.int d, .int e], .str x, .str y]) := by
  obtain ⟨a1, a2, a3⟩ := show_int ha
  obtain ⟨b1, b2, b3⟩ := show_int hb
  obtain ⟨c1, c2, c3⟩ := show_int hc
  obtain ⟨d1, d2, d3⟩ := show_int hd
  obtain ⟨e1, e2, e3⟩ := show_int he
  obtain ⟨x1, x2⟩ := show_str hx
  obtain ⟨y1, y2⟩ := show_str hy
  refine ⟨?_, rfl, (by simp [PyData.depth, PyData.depthAll]), ?_⟩
  · simp only [PyData.showable, PyData.showableAll] at a1 b1 c1 d1 e1 ⊢
    simp [a1, b1, c1, d1, e1]
  · have hl : (PyData.list [.tuple [.int a, .int b, .int c], .tuple [.int d, .int e], .str x, .str y]).leavesShort 300 = true := by
      simp only [PyData.leavesShort, PyData.leavesShortAll] at a2 b2 c2 d2 e2 x1 y1 ⊢
      simp only [a2, b2, c2, d2, e2, x1, y1, Bool.and_self]
    have hw := PyData.shown_le 300 (by decide) _ hl
    have e' : (PyData.list [.tuple [.int a, .int b, .int c], .tuple [.int d, .int e], .str x, .str y]).weight = ((PyData.int a).weight + 1 + ((PyData.int b).weight + 1 + ((PyData.int c).weight + 1 + 0))) + 1 + (((PyData.int d).weight + 1 + ((PyData.int e).weight + 1 + 0)) + 1 + ((PyData.str x).weight + 1 + ((PyData.str y).weight + 1 + 0))) := rfl
    rw [e'] at hw
    rw [sizeLine_eq]
    omega
/-! ### the texts -/
def commas (a b c : Int) : Str := ts a ++ ", " ++ ts b ++ ", " ++ ts c
theorem join3 (x y z : Str) : Txt.join ", " [x, y, z] = x ++ ", " ++ y ++ ", " ++ z := by
  show Builtin.Str.glued ", " [x, y, z] = _
  rw [StrLaws.glued_eq_join]
  show x ++ ", " ++ (y ++ ", " ++ z) = _
  simp only [Str.append_assoc]
def ftext (t b : Int) : Str := if b = 1 then ts t else ts t ++ "/" ++ ts b
def xtext (s l w : Int) : Str := if s = 0 then ftext w l else "root of " ++ commas s l w
def rtext (s l w : Int) : Str := "Exact(" ++ commas s l w ++ ")"
theorem commas_ok {a b c : Int} (ha : Sm 200 a) (hb : Sm 200 b) (hc : Sm 200 c) : OkT 700 (commas a b c) := ((((((ts_ok ha).app (OkT.of ", ")).app (ts_ok hb)).app (OkT.of ", ")).app (ts_ok hc))).mono (by decide)
theorem ftext_ok {t b : Int} (ht : Sm 200 t) (hb : Sm 200 b) : OkT 700 (ftext t b) := by
  unfold ftext
  split
  · exact (ts_ok ht).mono (by decide)
  · exact (((ts_ok ht).app (OkT.of "/")).app (ts_ok hb)).mono (by decide)
theorem xtext_ok {a b c : Int} (ha : Sm 200 a) (hb : Sm 200 b) (hc : Sm 200 c) : OkT 1000 (xtext a b c) := by
  unfold xtext
  split
  · exact (ftext_ok hc hb).mono (by decide)
  · exact ((OkT.of "root of ").app (commas_ok ha hb hc)).mono (by decide)
theorem rtext_ok {a b c : Int} (ha : Sm 200 a) (hb : Sm 200 b) (hc : Sm 200 c) : OkT 1000 (rtext a b c) := (((OkT.of "Exact(").app (commas_ok ha hb hc)).app (OkT.of ")")).mono (by decide)
theorem OkT.fits {n : Nat} {x : Str} (h : OkT n x) (l : n ≤ 100000 := by decide) : x.length ≤ sizeLine := by
  have := h.len
  rw [sizeLine_eq]
  omega
end RL

set_option maxHeartbeats 1000000
/-! Further rules: o.f as a target within a tuple; an own binary operator; a static method read off its class; an instance called by keyword; t[::-1] of a tuple; x in a tuple of data. -/
namespace RL
open PySem L2 PySem.Spec PyProof.Rows PySem.W
section
variable {X : Cx}
def gFld (K : PySem.W.Frag) (ta : TE) (f : Str) : TG := fun v σ H Q => ta σ H fun x H1 => ∃ a C dx fs, x = .ref a ∧ H1 a = some (.ins C dx fs) ∧ Cls K C ∧ NoAttr K C f ∧ fs.length < 1000 ∧ Q σ (upd H1 a (.ins C dx (putF f v fs)))
theorem pg_fld {o : Expr} {f : Str} {pos : Pos} {ta : TE} (ho : PE X o ta) (ha : ∀ v, assign (.Attribute o f pos) X.env v = (do
      let ov ← holding [v] (eval o X.env)
      standAt pos.atName
      holding [v, ov] (setAttr ov f v)
      release [v, ov] []) := by intro _; rfl) : PG X (.Attribute o f pos) (gFld X.K ta f) := by
  refine ⟨fun pins s σ H v u Q I r h => ?_⟩
  rw [ha]
  refine wpAny_bind (wpAny_holding (thn (ho.run pins s σ H _ I h) fun ov s1 ⟨x, H1, I1, r1, a, C, dx, fs, ex, ea, c, n, l, q⟩ => ?_))
  subst ex
  obtain rfl : ov = Value.ref a := r1
  refine wpAny_bind (wpAny_standAt (wpAny_bind (wpAny_holding (setattr_ok I1 ea c n l r fun s2 I2 => ?_))))
  exact wpAny_release ⟨σ, _, I2, q⟩
end
/-! ### an own binary operator -/
section
variable {X : Cx} {k : Nat} {ps : List Str} {sp : Sp} {C g : Addr} {fd : FuncData}
def rBinOwn (C : Addr) (sp : Sp) : R2 := fun x y H Q => ∃ a dx fs b dy gs, x = .ref a ∧ H a = some (.ins C dx fs) ∧ y = .ref b ∧ H b = some (.ins C dy gs) ∧ sp [x, y] H Q E0
theorem op_binOwn {op : Operator} (hc : PySem.W.selfFirst X.K C = true) (hs : PySem.W.findIn X.K (.ref C) (PySem.dunder op.info.2) = some (some (.ref g))) (hf : PySem.W.isFn X.K (.ref g) = true) (F : FnOk X.prog X.w X.K X.mg X.base CX0 k g fd ps sp) (hb : Binds X.K fd ps []) (hr : Room k X.A) :
    OpR X (binaryOp op) (rBinOwn C sp) := by
  intro pins s σ H x y v u Q I rx ry h
  obtain ⟨a, dx, fs, b, dy, gs, rfl, ha, rfl, hy, q⟩ := h
  cases (show v = Value.ref a from rx)
  cases (show u = Value.ref b from ry)
  obtain ⟨mA, O, _⟩ := ins_get I.hok ha
  obtain ⟨od, J, _⟩ := O.look
  obtain ⟨mB, O2, _⟩ := ins_get I.hok hy
  obtain ⟨od2, J2, _⟩ := O2.look
  obtain ⟨m, hF⟩ := I.fr
  refine PySem.W.binop_K hF I.ok.mod.kin J J2.type hc hs hf ?_
  have q0 : sp ([.ref a, .ref b] ++ []) H Q E0 := q
  refine wpAny_mono (run_fn (us := [.ref a, .ref b]) (vs := [.ref a, .ref b]) F hr hb .nil pass0 I (.cons rfl (.cons rfl .nil)) q0) (fun w s' z => ?_) fun _ _ z => z
  obtain ⟨z', H', I', rz, qz⟩ := z
  exact SlX.cmpback rz ⟨z', H', I', rz, qz⟩
end
/-! ### C.m(..), m a static method -/
structure SMet (K : PySem.W.Frag) (C : Addr) (mc : Value) (m : Str) (p g : Addr) : Prop where
  at_ : PySem.W.findCls K (.ref C) mc m = some (.get (.builtin "staticmethod.__get__") (.ref p) .none (.ref C))
  rc : ∃ rest, PySem.W.recIn K p "staticmethod" = some (.ref g :: rest)
  kp : PySem.W.keepIn K (.ref g) = true
def tSMeth (C : Addr) (sp : Sp) (ta : TE) (t : TA) : TE := fun σ H Q => ta σ H fun x H1 => x = .ref C ∧ t σ H1 fun vs H2 => sp vs H2 Q E0
section
variable {X : Cx} {k : Nat} {ps : List Str} {C p g : Addr} {mc : Value} {sp : Sp} {fd : FuncData} {o e : Expr} {es : List Expr} {m : Str} {pos apos : Pos} {ta : TE} {t : TA} {pl : Sem Bool}
theorem pe_smeth (he : PE X o ta) (r : ClX.CRead X.K C mc) (c : SMet X.K C mc m p g) (F : FnOk X.prog X.w X.K X.mg X.base CX0 k g fd ps sp) (hb : Binds X.K fd ps []) (hr : Room k X.A) (ha : PA X (e :: es) t)
    (hst : starEach (e :: es) X.env = (false, eval e X.env) :: starEach es X.env := by rfl) (hpl : (backTo pos (starEach es X.env)).any (·.1) = false := by rfl)
    (ht : eval (.Call (.Attribute o m apos) (e :: es) [] pos) X.env = (do
      let ov ← eval o X.env
      standAt apos.atName
      let (f, first) ← holding [ov] (getMethod ov m pl)
      callWith pos f first (backTo pos (starEach (e :: es) X.env)) (backToKw pos (keywordEach [] X.env))) := by rfl) :
    PE X (.Call (.Attribute o m apos) (e :: es) [] pos) (tSMeth C sp ta t) := by
  refine ⟨fun pins s σ H Q I h => ?_⟩
  refine PySem.W.methodCall_KW (pl := pl) (thn (he.run pins s σ H _ I h) fun u s1 ⟨x, H1, I1, rx, ex, q⟩ => ?_) ht
  subst ex
  obtain rfl : u = Value.ref C := rx
  obtain ⟨rest, hp⟩ := c.rc
  refine PySem.W.method_cls I1.kIn r.ga (PySem.W.cls_bind I1.kIn r.rd c.at_ (wpAny_call (PySem.W.sm_get (s := { s1 with toks := s1.toks + 1 }) I1.kIn hp (PySem.W.handed_on rfl ?_))))
  have I2 := I1.tok (s1.toks + 1)
  refine PySem.W.callWith_K (first := []) (h₀ := X.base) I.ok.mod.kin c.kp (thn (ha.run pos pins _ σ H1 _ I2 q) fun us s2 ⟨vs, H2, I3, rv, q2⟩ => ⟨I3.kIn, ?_⟩) hst hpl
  have q0 : sp (vs ++ []) H2 Q E0 := by
    rw [List.append_nil]
    exact q2
  exact run_fn (us := us) F hr hb .nil pass0 I3 rv q0
end
/-! ### an instance called by one keyword -/
theorem callOK_of {M : Model} {A : Around} {E : Value → Shared → Prop} {s : Shared} {a : Addr} {pos : Pos} {Q : Value → Shared → Prop} {args : List (Bool × Sem Value)} {kws : List (Option Str × Sem Value)} (hplain : (args.any (·.1) || kws.any (·.1.isNone)) = false)
    (h : wpAny M A (evalArgs (.ref a) true args kws) (fun z s₁ => (∃ C ox od, PySem.W.InstAt s₁.heap a ox C od ∧ ox.data = .plain) ∧ wpAny M A (call (.ref a) ([] ++ z.pos) z.kw) Q E s₁) E s) : wpAny M A (callWith pos (.ref a) [] args kws) Q E s := by
  unfold callWith
  refine wpAny_bind (wpAny_holding (wpAny_mono h (fun z s₁ h₁ => wpAny_bind (wpAny_standAt ?_)) fun _ _ y => y))
  obtain ⟨⟨C, ox, od, J, hd⟩, h₁⟩ := h₁
  have L := PySem.W.kco_keeper (M := M) J hd
  simp only [hplain]
  refine wpAny_bind (L.here ?_)
  have tail : ∀ {t : Sem Value}, wpAny M A t Q E s₁ → wpAny M A (t >>= fun r => holding [r] point >>= fun _ => pure r) Q E s₁ :=
    fun ht => wpAny_bind (wpAny_mono ht (fun r s₂ hr => wpAny_bind (wpAny_holding (wpAny_point (wpAny_pure hr)))) fun _ _ y => y)
  exact tail (wpAny_operateT h₁)
section
variable {X : Cx} {k : Nat} {C g : Addr} {sp : Sp} {fd : FuncData} {fe e : Expr} {es : List Expr} {pos kpos : Pos} {p1 kw : Str} {tf : TE} {tk : TA} {t : TA}
/-- f(kw=e), f an instance of C -/
def tCallOK (X : Cx) (C : Addr) (sp : Sp) (tf : TE) (tk : TA) : TE := fun σ H Q => tf σ H fun y H1 => ∃ a, y = V.ref a ∧ tk σ H1 fun vs H2 => (∃ dx fs, H2 a = some (.ins C dx fs)) ∧ sp (V.ref a :: vs) H2 Q E0
theorem pe_callOK (hf : PE X fe tf) (c : StX.CallO X.K C g) (F : FnOk X.prog X.w X.K X.mg X.base CX0 k g fd [p1, kw] sp) (hb : ∀ (s : Shared) (u v : Value), X.K.In s.heap → BindsTo s fd ⟨[u], [(kw, v)]⟩ [(p1, u), (kw, v)]) (hr : Room k X.A) (hkw : PK X [⟨some kw, e, kpos⟩] tk)
    (hall : (backToKw pos (keywordEach [⟨some kw, e, kpos⟩] X.env)).all (·.1.isSome) = true := by rfl) (hks : (backToKw pos (keywordEach [⟨some kw, e, kpos⟩] X.env)).filterMap (·.1) = [kw] := by rfl)
    (hpl : ((backTo pos (starEach [] X.env)).any (·.1) || (backToKw pos (keywordEach [⟨some kw, e, kpos⟩] X.env)).any (·.1.isNone)) = false := by rfl)
    (ht : eval (.Call fe [] [⟨some kw, e, kpos⟩] pos) X.env = (do callWith pos (← eval fe X.env) [] (backTo pos (starEach [] X.env)) (backToKw pos (keywordEach [⟨some kw, e, kpos⟩] X.env))) := by rfl) :
    PE X (.Call fe [] [⟨some kw, e, kpos⟩] pos) (tCallOK X C sp tf tk) := by
  refine ⟨fun pins s σ H Q I h => ?_⟩
  rw [ht]
  refine wpAny_bind (thn (hf.run pins s σ H _ I h) fun u s1 ⟨y, H1, I1, ry, a, ey, q⟩ => ?_)
  subst ey
  obtain rfl : u = Value.ref a := ry
  refine callOK_of hpl (PyProof.Rows.evalArgs_kw2_nil hall (thn (hkw.run pos pins s1 σ H1 _ I1 q) fun ws s2 ⟨zs, H2, I2, rz, ⟨dx, fs, hi⟩, q2⟩ => ?_))
  obtain ⟨ox, od, J, hd⟩ := StX.insC_at I2 (C := C) (.inr ⟨dx, fs, hi⟩)
  refine ⟨⟨C, ox, od, J, hd⟩, ?_⟩
  rw [hks]
  have hl := F.len _ _ _ _ q2
  cases rz with
  | nil => cases hl
  | @cons v u vs us rv rr =>
    cases rr with
    | cons _ _ => cases hl
    | nil =>
      refine wpAny_call (PySem.W.kco_code I2.kIn J hd c.at_ c.fn c.fi (codeAny_mono (F.run X.A X.stack s2 H2 ⟨[.ref a], [(kw, u)]⟩ [.ref a, u] [.ref a, v] Q E0 hr I2.env0 (hb s2 _ _ I2.kIn) (.cons rfl (.cons rv .nil)) q2) fun r s' hq => ?_))
      cases r with
      | error e => exact False.elim hq
      | ok fl =>
        cases fl with
        | ret u => exact I2.after hq
        | next => exact False.elim hq
        | brk => exact False.elim hq
        | cont => exact False.elim hq
/-- a def by position, as a promise of its arguments alone -/
theorem fnR_of {ps : List Str} (F : FnOk X.prog X.w X.K X.mg X.base CX0 k g fd ps sp) (hb : Binds X.K fd ps []) : FnR X.prog X.w X.K X.mg X.base CX0 k g sp := by
  intro A outer s H us vs Q E hr e0 r h
  have hl : (us ++ []).length = ps.length := by
    rw [List.append_nil, ← r.length]
    exact F.len _ _ _ _ h
  have KX : X.K.In s.heap := e0.mod.kin.keeps fun b o e => (e0.bs b o e).1
  have hbb := hb s us KX hl
  rw [List.append_nil] at hbb
  exact F.run A outer s H ⟨us, []⟩ us vs Q E hr e0 hbb r h
end
/-! ### t[::-1] -/
section
variable {prog : Program} {w : World} {A : Around} {E : Value → Shared → Prop} {s : Shared}
open HT
theorem sliceApplied_rev {sl : Addr} {vl vu vs : Value} {n : Nat} {Q : Int × Int × Nat → Shared → Prop} (hs : s.heap.IsSliceOf sl vl vu vs) (pl : IsPart vl none) (pu : IsPart vu none) (ps : IsPart vs (some (-1)))
    (h : Q ((n : Int) - 1, -1, n) s) : wpAny (model prog w) A (Builtin.Slice.sliceApplied (.ref sl) (pure (n : Int))) Q E s := by
  obtain ⟨os, hos, hcs, hds⟩ := id hs
  unfold Builtin.Slice.sliceApplied Builtin.Slice.sliceFields
  refine wpAny_bind (wpAny_bind (wpAny_field hos hds (x := vl) rfl (wpAny_bind (wpAny_field hos hds (x := vu) rfl (wpAny_bind (wpAny_field hos hds (x := vs) rfl (wpAny_pure ?_)))))))
  refine wpAny_bind (slicePart_ ps ?_)
  show wpAny _ _ (if ((-1 : Int) == 0) = true then _ else _) _ _ s
  rw [if_neg (by decide)]
  refine wpAny_bind (slicePart_ pl (wpAny_bind (slicePart_ pu (wpAny_bind (wpAny_pure ?_)))))
  show wpAny _ _ (match Builtin.Slice.sliceAdjust none none (-1) (n : Int) with | (lo, hi) => pure (lo, (-1 : Int), Builtin.Slice.slicePlaces lo hi (-1))) _ _ s
  have e1 : Builtin.Slice.sliceAdjust none none (-1) (n : Int) = ((n : Int) - 1, -1) := rfl
  rw [e1]
  have e2 : Builtin.Slice.slicePlaces ((n : Int) - 1) (-1) (-1) = n := by
    unfold Builtin.Slice.slicePlaces
    rw [if_neg (by decide)]
    split
    · rw [show (-(-1 : Int)) = 1 by decide, Int.ediv_one]
      omega
    · omega
  show wpAny _ _ (pure ((n : Int) - 1, (-1 : Int), Builtin.Slice.slicePlaces ((n : Int) - 1) (-1) (-1))) _ _ s
  rw [e2]
  exact wpAny_pure h
theorem fm_congr {α β : Type} {f g : α → Option β} : ∀ {l : List α}, (∀ a ∈ l, f a = g a) → l.filterMap f = l.filterMap g
  | [], _ => rfl
  | a :: l, h => by
    rw [List.filterMap_cons, List.filterMap_cons, h a List.mem_cons_self, fm_congr fun b hb => h b (List.mem_cons_of_mem _ hb)]
theorem pick_rev (xs : Array Value) : ((List.range xs.size).filterMap fun (m : Nat) => xs[(((xs.size : Int) - 1) + (m : Int) * (-1)).toNat]?).toArray = xs.toList.reverse.toArray := by
  have e : ∀ m ∈ List.range xs.size, xs[(((xs.size : Int) - 1) + (m : Int) * (-1)).toNat]? = xs[xs.size - 1 - m]? := fun m hm => by
    have : m < xs.size := List.mem_range.mp hm
    have : (((xs.size : Int) - 1) + (m : Int) * (-1)).toNat = xs.size - 1 - m := by omega
    rw [this]
  rw [fm_congr e]
  have e3 : (List.range xs.size).filterMap (fun m => xs[xs.size - 1 - m]?) = ((List.range xs.size).map fun k => xs.size - 1 - k).filterMap (xs[·]?) := by
    rw [List.filterMap_map]
    rfl
  rw [e3, PySem.W.krv_range, List.filterMap_reverse, PySem.W.krv_all]
theorem getItem_tuple_rev {t sl : Addr} {items : Array Value} {vl vu vs : Value} {Q : Value → Shared → Prop} (ht : IsTup s.heap t items) (hs : s.heap.IsSliceOf sl vl vu vs) (pl : IsPart vl none) (pu : IsPart vu none) (ps : IsPart vs (some (-1)))
    (h : Q (.ref s.heap.objs.size) { s with heap := s.heap.push { cls := .type "tuple", data := .seq items.toList.reverse.toArray } })
    (hsz : items.size ≤ sizeLine) : wpAny (model prog w) A (getItem (.ref t) (.ref sl)) Q E s := by
  have htake : sizeOk (.seq items.toList.reverse.toArray) := by
    show items.toList.reverse.toArray.size ≤ sizeLine
    rw [List.size_toArray, List.length_reverse, Array.length_toList]
    exact hsz
  obtain ⟨os, hos, hcs, hds⟩ := id hs
  have hTs : s.TypeIs (.ref sl) "slice" := ⟨os, hos, hcs⟩
  unfold getItem
  try with_reducible refine wpAny_holding ?_
  first | refine wpAny_bind (wpAny_pure ?_) | skip
  refine wpAny_bind (wpAny_sequenceKey ht.typeIs (by decide) ?_)
  refine wpAny_bind (wpAny_callSpecial?_slot (name := Str.ofString "__getitem__") ht.typeIs PyProof.Rows.slot_tuple_getitem
    (wpAny_call_entry PyProof.Rows.slot_tuple_getitem ht.typeIs entry_tuple_getitem ?_ (args_tuple_getitem _ _)))
  show wpAny _ _ (Builtin.Tuple.tupleItemsOf (.ref t) >>= _) _ _ s
  refine wpAny_bind (tupleItemsOf_ ht ?_)
  refine wpAny_bind (wpAny_typeOf hTs ?_)
  rw [if_pos (by decide)]
  refine wpAny_bind (sliceApplied_rev hs pl pu ps ?_)
  show wpAny _ _ (if ((((items.size : Int) - 1) == 0 && (-1 : Int) == 1 && items.size == items.size) = true) then _ else _) _ _ s
  rw [if_neg (by rw [show ((-1 : Int) == 1) = false by decide, Bool.and_false, Bool.false_and]; exact Bool.false_ne_true), pick_rev]
  first
    | exact wpAny_bind (m := Builtin.Tuple.tupleExact _) (wpAny_newObj_type (wpAny_pure ⟨_, rfl, wpAny_pure h⟩) htake)
    | exact wpAny_bind (m := Builtin.Tuple.tupleExact _) (wpAny_newObj_type (wpAny_bind (wpAny_pure (wpAny_pure ⟨_, rfl, wpAny_pure h⟩))) htake)
    | exact wpAny_bind (wpAny_bind (m := Builtin.Tuple.tupleExact _) (wpAny_newObj_type (wpAny_pure (wpAny_pure ⟨_, rfl, wpAny_pure h⟩)) htake))
    | exact wpAny_bind (wpAny_bind (m := Builtin.Tuple.tupleExact _) (wpAny_newObj_type (wpAny_pure ⟨_, rfl, wpAny_pure h⟩) htake))
end
section
variable {X : Cx}
def tRevT (K : PySem.W.Frag) (te : TE) : TE := fun σ H Q => te σ H fun x H1 => ∃ a xs, x = .ref a ∧ SqT K H1 a xs ∧ ∀ p, H1 p = none → Q (.ref p) (upd H1 p (.tup xs.reverse))
theorem pe_revT {e : Expr} {te : TE} {k : Nat} {p1 p2 p3 pos : Pos} (he : PE X e te) : PE X (.Subscript e (.Slice none none (some (.UnaryOp .USub (.Constant (.int 1) k p1) p2)) p3) pos) (tRevT X.K te) := by
  refine ⟨fun pins s σ H Q I h => ?_⟩
  refine Subscript_ (thn (he.run pins s σ H _ I h) fun v s1 ⟨x, H1, I1, r1, q1⟩ => ?_)
  obtain ⟨a, xs, ex, hx, q⟩ := q1
  subst ex
  cases r1
  have hst : PO X (some (.UnaryOp .USub (.Constant (.int 1) k p1) p2)) (tPart (tUn (rU fun i => .int (-i)) (tC (.int 1)))) := po_some (pe_un un_neg pe_int)
  refine wpAny_Slice (thn (po_none.run pins s1 σ H1 (fun o H2 => o = none ∧ H2 = H1) I1 ⟨rfl, rfl⟩) fun vl s2 ⟨l, H2, I2, pl, el, e2⟩ => ?_)
  subst el e2
  refine thn (po_none.run pins s2 σ H2 (fun o H3 => o = none ∧ H3 = H2) I2 ⟨rfl, rfl⟩) fun vu s3 ⟨u, H3, I3, pu, eu, e3⟩ => ?_
  subst eu e3
  refine thn (hst.run pins s3 σ H3 (fun o H4 => o = some (-1) ∧ H4 = H3) I3 ⟨1, rfl, -1, rfl, rfl, rfl⟩) fun vs s4 ⟨o, H4, I4, ps, eo, e4⟩ => ?_
  subst eo e4
  have I5 : Inv X pins σ H4 { s4 with heap := s4.heap.push { cls := .type "slice", data := .fields #[vl, vu, vs] } } := I4.kept (t' := s4.toks) fun b ob q => Heap.get?_push_of_some _ q
  obtain ⟨its, r, ht, hz⟩ := I5.tuple hx
  have hlen := r.length
  show wpAny (model X.prog X.w) X.A (subscriptTail e (.Slice none none (some (.UnaryOp .USub (.Constant (.int 1) k p1) p2)) p3) (.ref a) (.ref s4.heap.objs.size)) (EP X pins σ Q) X.xe { s4 with heap := s4.heap.push { cls := .type "slice", data := .fields #[vl, vu, vs] } }
  refine tail_any (ops := [.ref a, .ref s4.heap.objs.size]) ht.typeIs PyProof.Rows.slot_tuple_getitem.lookup ?_ (by with_unfolding_all rfl)
  refine getItem_tuple_rev ht (Heap.IsSliceOf.new _ vl vu vs) pl pu ps ?_ (by rw [List.size_toArray]; omega)
  refine ⟨.ref _, _, I5.laid (t' := s4.toks) (o := .tup xs.reverse) (fun b ob q => Heap.get?_push_of_some _ q) (Nat.le_refl _) ?_, rfl, q _ (I5.hok.fresh (Nat.le_refl _))⟩
  exact ⟨by rw [List.length_reverse]; exact hz, _, r.reverse, IsTup.new _ _⟩
/-! ### x in a tuple of data -/
def rInT (K : PySem.W.Frag) : R2 := fun x y H Q => ∃ d ds, Dp K H x d ∧ Dp K H y (.tuple ds) ∧ SeqAt.shaped d = true ∧ SeqAt.shaped (.tuple ds) = true ∧ Q (.bl (ds.any fun z => PyData.eqv z d)) H
theorem op_inT (hu : X.A.units + 65 < cLine) : OpR X (compareOp .In) (rInT X.K) := by
  intro pins s σ H x y v u Q I rx ry h
  obtain ⟨d, ds, hd, he, sd, se, q⟩ := h
  obtain ⟨as, r1⟩ := Dp.reads I d x v hd rx
  obtain ⟨bs, r2⟩ := Dp.reads I (.tuple ds) y u he ry
  exact SeqAt.in_tuple_reads r2 r1 (SeqAt.canLay_of_shaped se) (SeqAt.canLay_of_shaped sd) (room_in_shaped sd hu) ⟨.bl _, H, I, rfl, q⟩
end
end RL

/-! The mathematics of rows of pieces: their maps, what they show. -/
namespace RL
/-- a piece: is it a rail, its ohms -/
abbrev Pc := Bool × Int
def PcOk (p : Pc) : Prop := 1 ≤ p.2 ∧ p.2 ≤ 12
structure Mx where
  a : Int
  b : Int
  c : Int
  d : Int
def stepM (m : Mx) (p : Pc) : Mx := if p.1 = true then ⟨m.a, m.a * p.2 + m.b, m.c, m.c * p.2 + m.d⟩ else ⟨m.a * p.2 + m.b, m.b * p.2, m.c * p.2 + m.d, m.d * p.2⟩
def stepS (s : Int) (p : Pc) : Int := if p.1 = true then s else s * p.2
def m1 : Mx := ⟨1, 0, 0, 1⟩
def matR (r : List Pc) : Mx := r.foldl stepM m1
def sclR (r : List Pc) : Int := r.foldl stepS 1
/-- what a map makes of a pair -/
def Mx.app (m : Mx) (e : Int × Int) : Int × Int := (m.a * e.1 + m.b * e.2, m.c * e.1 + m.d * e.2)
def act (p : Pc) (e : Int × Int) : Int × Int := if p.1 = true then (e.1 + p.2 * e.2, e.2) else (p.2 * e.1, e.1 + p.2 * e.2)
def actR (r : List Pc) (e : Int × Int) : Int × Int := r.foldr act e
theorem app_step (m : Mx) (p : Pc) (e : Int × Int) : (stepM m p).app e = m.app (act p e) := by
  unfold stepM act Mx.app
  split <;> (ext <;> dsimp <;> grind)
theorem app_fold (r : List Pc) : ∀ (m : Mx) (e : Int × Int), (r.foldl stepM m).app e = m.app (actR r e) := by
  induction r with
  | nil => exact fun _ _ => rfl
  | cons p r ih =>
    intro m e
    rw [List.foldl_cons, ih, app_step]
    rfl
theorem app_one (e : Int × Int) : m1.app e = e := by
  unfold Mx.app m1
  ext <;> dsimp <;> omega
theorem mat_app (r : List Pc) (e : Int × Int) : (matR r).app e = actR r e := by
  unfold matR
  rw [app_fold, app_one]
theorem act_app (r r' : List Pc) (e : Int × Int) : actR (r ++ r') e = actR r (actR r' e) := List.foldr_append ..
/-- a pair that stands for a fraction or an open end -/
def Pos2 (e : Int × Int) : Prop := 0 ≤ e.1 ∧ 0 ≤ e.2 ∧ (0 < e.1 ∨ 0 < e.2)
def sc (k : Int) (e : Int × Int) : Int × Int := (k * e.1, k * e.2)
theorem act_pos {p : Pc} {e : Int × Int} (hp : PcOk p) (h : Pos2 e) : Pos2 (act p e) := by
  obtain ⟨h1, h2, h3⟩ := h
  obtain ⟨q1, q2⟩ := hp
  have m1 := Int.mul_nonneg (show 0 ≤ p.2 by omega) h1
  have m2 := Int.mul_nonneg (show 0 ≤ p.2 by omega) h2
  unfold act Pos2
  split
  · dsimp
    omega
  · dsimp
    refine ⟨m1, by omega, ?_⟩
    rcases h3 with h3 | h3
    · exact .inl (Int.mul_pos (by omega) h3)
    · have := Int.mul_pos (show 0 < p.2 by omega) h3
      exact .inr (by omega)
def RowOk (r : List Pc) : Prop := ∀ p ∈ r, PcOk p
theorem RowOk.tail {p : Pc} {r : List Pc} (h : RowOk (p :: r)) : RowOk r := fun q hq => h q (List.mem_cons_of_mem _ hq)
theorem RowOk.head {p : Pc} {r : List Pc} (h : RowOk (p :: r)) : PcOk p := h p List.mem_cons_self
theorem RowOk.app {r r' : List Pc} (h : RowOk r) (h' : RowOk r') : RowOk (r ++ r') := fun q hq => (List.mem_append.mp hq).elim (h q) (h' q)
theorem actR_pos {r : List Pc} {e : Int × Int} (hr : RowOk r) (h : Pos2 e) : Pos2 (actR r e) := by
  induction r with
  | nil => exact h
  | cons p r ih => exact act_pos hr.head (ih hr.tail)
theorem act_sc (p : Pc) (k : Int) (e : Int × Int) : act p (sc k e) = sc k (act p e) := by
  unfold act sc
  split <;> (ext <;> dsimp <;> grind)
theorem actR_sc (r : List Pc) (k : Int) (e : Int × Int) : actR r (sc k e) = sc k (actR r e) := by
  induction r with
  | nil => rfl
  | cons p r ih =>
    show act p (actR r (sc k e)) = _
    rw [ih, act_sc]
    rfl
/-- .. as the law walks -/
def frt (p : Pc) (e : Int × Int) : Int × Int := if p.1 = true then (e.1 + p.2 * e.2, e.2) else if e.2 = 0 then (p.2, 1) else (p.2 * e.1, p.2 * e.2 + e.1)
def frtR (r : List Pc) (e : Int × Int) : Int × Int := r.foldr frt e
theorem frt_act {p : Pc} {e : Int × Int} (hp : PcOk p) (h : Pos2 e) : ∃ k, 0 < k ∧ act p e = sc k (frt p e) := by
  unfold act frt sc
  split
  · exact ⟨1, by decide, by ext <;> dsimp <;> omega⟩
  · split
    · rename_i z
      refine ⟨e.1, by have := h.2.2; omega, ?_⟩
      ext
      · dsimp
        grind
      · dsimp
        rw [z]
        omega
    · exact ⟨1, by decide, by ext <;> dsimp <;> omega⟩
theorem frt_pos {p : Pc} {e : Int × Int} (hp : PcOk p) (h : Pos2 e) : Pos2 (frt p e) := by
  obtain ⟨k, hk, ek⟩ := frt_act hp h
  have := act_pos hp h
  rw [ek] at this
  unfold sc Pos2 at this
  obtain ⟨a, b, c⟩ := this
  have t1 : ∀ x : Int, 0 ≤ k * x → 0 ≤ x := fun x hx => by
    rcases Int.lt_or_le x 0 with z | z
    · have := Int.mul_neg_of_pos_of_neg hk z
      omega
    · exact z
  have t2 : ∀ x : Int, 0 < k * x → 0 < x := fun x hx => by
    rcases Int.lt_or_le 0 x with z | z
    · exact z
    · have := Int.mul_nonpos_of_nonneg_of_nonpos (Int.le_of_lt hk) z
      omega
  exact ⟨t1 _ a, t1 _ b, c.imp (t2 _) (t2 _)⟩
theorem frtR_pos {r : List Pc} {e : Int × Int} (hr : RowOk r) (h : Pos2 e) : Pos2 (frtR r e) := by
  induction r with
  | nil => exact h
  | cons p r ih => exact frt_pos hr.head (ih hr.tail)
theorem sc_sc (j k : Int) (e : Int × Int) : sc j (sc k e) = sc (j * k) e := by
  unfold sc
  ext <;> dsimp <;> grind
theorem frtR_act {r : List Pc} {e : Int × Int} (hr : RowOk r) (h : Pos2 e) : ∃ k, 0 < k ∧ actR r e = sc k (frtR r e) := by
  induction r with
  | nil => exact ⟨1, by decide, by unfold sc; ext <;> dsimp [actR, frtR] <;> omega⟩
  | cons p r ih =>
    obtain ⟨k, hk, ek⟩ := ih hr.tail
    obtain ⟨j, hj, ej⟩ := frt_act hr.head (frtR_pos hr.tail h)
    refine ⟨k * j, Int.mul_pos hk hj, ?_⟩
    show act p (actR r e) = sc (k * j) (frt p (frtR r e))
    rw [ek, act_sc, ej, sc_sc]
/-! ### lowest terms -/
def low (e : Int × Int) : Int × Int := (e.1 / gc e.1 e.2, e.2 / gc e.1 e.2)
theorem gc_pos2 {e : Int × Int} (h : Pos2 e) : 0 < gc e.1 e.2 := gc_pos (by have := h.2.2; omega)
theorem gc_sm {t b : Int} {n : Nat} (h : Pos2 (t, b)) (ht : Sm n t) (hb : Sm n b) : Sm n (gc t b) := by
  have g0 : 0 < gc t b := gc_pos2 h
  rcases h.2.2 with z | z
  · have := Int.le_of_dvd z (gc_dvd1 t b)
    exact ht.of (by omega) this
  · have := Int.le_of_dvd z (gc_dvd2 t b)
    exact hb.of (by omega) this
theorem low_sc {k : Int} (hk : 0 < k) (e : Int × Int) : low (sc k e) = low e := by
  unfold low sc
  dsimp
  rw [gc_mul (Int.le_of_lt hk), Int.mul_ediv_mul_of_pos _ _ hk, Int.mul_ediv_mul_of_pos _ _ hk]
theorem low_is {e : Int × Int} (h : Pos2 e) : e = sc (gc e.1 e.2) (low e) := by
  unfold low sc
  ext
  · exact ex_mul (gc_dvd1 _ _) (gc_pos2 h)
  · exact ex_mul (gc_dvd2 _ _) (gc_pos2 h)
theorem pos_sc {k : Int} {e : Int × Int} (hk : 0 < k) (h : Pos2 (sc k e)) : Pos2 e := by
  unfold sc Pos2 at h
  obtain ⟨a, b, c⟩ := h
  have t1 : ∀ x : Int, 0 ≤ k * x → 0 ≤ x := fun x hx => by
    rcases Int.lt_or_le x 0 with z | z
    · have := Int.mul_neg_of_pos_of_neg hk z
      omega
    · exact z
  have t2 : ∀ x : Int, 0 < k * x → 0 < x := fun x hx => by
    rcases Int.lt_or_le 0 x with z | z
    · exact z
    · have := Int.mul_nonpos_of_nonneg_of_nonpos (Int.le_of_lt hk) z
      omega
  exact ⟨t1 _ a, t1 _ b, c.imp (t2 _) (t2 _)⟩
theorem low_pos {e : Int × Int} (h : Pos2 e) : Pos2 (low e) := pos_sc (gc_pos2 h) (by rw [← low_is h]; exact h)
theorem low_low {e : Int × Int} (h : Pos2 e) : low (low e) = low e := by
  have := low_sc (gc_pos2 h) (low e)
  rw [← low_is h] at this
  exact this.symm
/-- what the map shows is what the walk shows -/
theorem shows_front {r : List Pc} {e : Int × Int} (hr : RowOk r) (h : Pos2 e) : low ((matR r).app e) = low (frtR r e) := by
  obtain ⟨k, hk, ek⟩ := frtR_act hr h
  rw [mat_app, ek, low_sc hk]
theorem shows_two {r r' : List Pc} {e : Int × Int} (hr : RowOk r) (hr' : RowOk r') (h : Pos2 e) : low ((matR (r ++ r')).app e) = low (frtR r (low (frtR r' e))) := by
  have p' := frtR_pos hr' h
  have pl := low_pos p'
  obtain ⟨k, hk, ek⟩ := frtR_act hr pl
  obtain ⟨j, hj, ej⟩ := frtR_act hr' h
  rw [mat_app, act_app, ej, actR_sc, low_sc hj]
  conv => lhs; rw [low_is p']
  rw [actR_sc, low_sc (gc_pos2 p'), ek, low_sc hk]
/-! ### the four fractions -/
theorem low_frac {x s : Int} (hs : 0 < s) : 0 < s / gc x s ∧ x / gc x s * s = s / gc x s * x := by
  have g0 : 0 < gc x s := gc_pos (.inr (by omega))
  have e1 := ex_mul (gc_dvd1 x s) g0
  have e2 := ex_mul (gc_dvd2 x s) g0
  refine ⟨?_, ?_⟩
  · rcases Int.lt_or_le 0 (s / gc x s) with z | z
    · exact z
    · have := Int.mul_nonpos_of_nonneg_of_nonpos (Int.le_of_lt g0) z
      omega
  · generalize x / gc x s = u at *
    generalize s / gc x s = v at *
    generalize gc x s = g at *
    subst e1
    rw [e2]
    grind
theorem by_numbers {m : Mx} {s : Int} {e : Int × Int} (hs : 0 < s) {a0 a1 b0 b1 c0 c1 d0 d1 : Int} (ha : 0 < a1 ∧ a0 * s = a1 * m.a) (hb : 0 < b1 ∧ b0 * s = b1 * m.b) (hc : 0 < c1 ∧ c0 * s = c1 * m.c) (hd : 0 < d1 ∧ d0 * s = d1 * m.d) :
    low ((a0 * b1 * e.1 + b0 * a1 * e.2) * c1 * d1, (c0 * d1 * e.1 + d0 * c1 * e.2) * a1 * b1) = low (m.app e) := by
  have hP : 0 < a1 * b1 * c1 * d1 := Int.mul_pos (Int.mul_pos (Int.mul_pos ha.1 hb.1) hc.1) hd.1
  rw [← low_sc hs, ← low_sc hP (m.app e)]
  congr 1
  unfold sc Mx.app
  obtain ⟨_, ha⟩ := ha
  obtain ⟨_, hb⟩ := hb
  obtain ⟨_, hc⟩ := hc
  obtain ⟨_, hd⟩ := hd
  ext
  · dsimp
    grind
  · dsimp
    grind
theorem by_numbers_pos {m : Mx} {s : Int} {e : Int × Int} (hs : 0 < s) {a0 a1 b0 b1 c0 c1 d0 d1 : Int} (ha : 0 < a1 ∧ a0 * s = a1 * m.a) (hb : 0 < b1 ∧ b0 * s = b1 * m.b) (hc : 0 < c1 ∧ c0 * s = c1 * m.c) (hd : 0 < d1 ∧ d0 * s = d1 * m.d) (hp : Pos2 (m.app e)) :
    Pos2 ((a0 * b1 * e.1 + b0 * a1 * e.2) * c1 * d1, (c0 * d1 * e.1 + d0 * c1 * e.2) * a1 * b1) := by
  have hP : 0 < a1 * b1 * c1 * d1 := Int.mul_pos (Int.mul_pos (Int.mul_pos ha.1 hb.1) hc.1) hd.1
  refine pos_sc hs ?_
  have e1 : sc s ((a0 * b1 * e.1 + b0 * a1 * e.2) * c1 * d1, (c0 * d1 * e.1 + d0 * c1 * e.2) * a1 * b1) = sc (a1 * b1 * c1 * d1) (m.app e) := by
    unfold sc Mx.app
    obtain ⟨_, ha⟩ := ha
    obtain ⟨_, hb⟩ := hb
    obtain ⟨_, hc⟩ := hc
    obtain ⟨_, hd⟩ := hd
    ext
    · dsimp
      grind
    · dsimp
      grind
  rw [e1]
  obtain ⟨p1, p2, p3⟩ := hp
  exact ⟨Int.mul_nonneg (Int.le_of_lt hP) p1, Int.mul_nonneg (Int.le_of_lt hP) p2, p3.imp (Int.mul_pos hP) (Int.mul_pos hP)⟩
/-! ### signs and sizes -/
def MxOk (m : Mx) : Prop := 0 ≤ m.a ∧ 0 ≤ m.b ∧ 0 ≤ m.c ∧ 0 ≤ m.d ∧ 0 < m.a * m.d - m.b * m.c
theorem step_ok {m : Mx} {p : Pc} (hp : PcOk p) (h : MxOk m) : MxOk (stepM m p) := by
  obtain ⟨h1, h2, h3, h4, h5⟩ := h
  have q0 : 0 ≤ p.2 := by have := hp.1; omega
  have z1 := Int.mul_nonneg h1 q0
  have z2 := Int.mul_nonneg h2 q0
  have z3 := Int.mul_nonneg h3 q0
  have z4 := Int.mul_nonneg h4 q0
  unfold stepM MxOk
  split
  · dsimp
    refine ⟨h1, by omega, h3, by omega, ?_⟩
    have : m.a * (m.c * p.2 + m.d) - (m.a * p.2 + m.b) * m.c = m.a * m.d - m.b * m.c := by grind
    omega
  · dsimp
    refine ⟨by omega, by omega, by omega, by omega, ?_⟩
    have : (m.a * p.2 + m.b) * (m.d * p.2) - m.b * p.2 * (m.c * p.2 + m.d) = p.2 * p.2 * (m.a * m.d - m.b * m.c) := by grind
    rw [this]
    have q1 : 0 < p.2 := by have := hp.1; omega
    exact Int.mul_pos (Int.mul_pos q1 q1) h5
theorem fold_ok {r : List Pc} : ∀ {m : Mx}, RowOk r → MxOk m → MxOk (r.foldl stepM m) := by
  induction r with
  | nil => exact fun _ h => h
  | cons p r ih => exact fun hr h => ih hr.tail (step_ok hr.head h)
theorem matR_ok {r : List Pc} (hr : RowOk r) : MxOk (matR r) := fold_ok hr ⟨by decide, by decide, by decide, by decide, by decide⟩
theorem scl_fold {r : List Pc} : ∀ {s : Int}, RowOk r → 0 < s → 0 < r.foldl stepS s := by
  induction r with
  | nil => exact fun _ h => h
  | cons p r ih =>
    intro s hr h
    refine ih hr.tail ?_
    unfold stepS
    split
    · exact h
    · exact Int.mul_pos h (by have := hr.head.1; omega)
theorem sclR_pos {r : List Pc} (hr : RowOk r) : 0 < sclR r := scl_fold hr (by decide)
def MxSm (n : Nat) (m : Mx) : Prop := Sm n m.a ∧ Sm n m.b ∧ Sm n m.c ∧ Sm n m.d
theorem ohm_sm {p : Pc} (hp : PcOk p) : Sm 4 p.2 := by
  obtain ⟨h1, h2⟩ := hp
  unfold Sm
  omega
theorem step_sm {m : Mx} {p : Pc} {n : Nat} (hp : PcOk p) (h : MxSm n m) : MxSm (n + 5) (stepM m p) := by
  obtain ⟨h1, h2, h3, h4⟩ := h
  have o := ohm_sm hp
  have up : ∀ {x : Int}, Sm n x → Sm (n + 4) x := fun z => z.mono (by omega)
  unfold stepM MxSm
  split
  · exact ⟨h1.mono (by omega), (h1.mul o).add (up h2), h3.mono (by omega), (h3.mul o).add (up h4)⟩
  · exact ⟨(h1.mul o).add (up h2), (h2.mul o).mono (by omega), (h3.mul o).add (up h4), (h4.mul o).mono (by omega)⟩
theorem fold_sm {r : List Pc} : ∀ {m : Mx} {n : Nat}, RowOk r → MxSm n m → MxSm (n + 5 * r.length) (r.foldl stepM m) := by
  induction r with
  | nil => exact fun _ h => h
  | cons p r ih =>
    intro m n hr h
    have := ih hr.tail (step_sm hr.head h)
    rw [List.foldl_cons, List.length_cons]
    have e : n + 5 * (r.length + 1) = n + 5 + 5 * r.length := by omega
    rw [e]
    exact this
theorem MxSm.mono {m n : Nat} {x : Mx} (h : MxSm m x) (l : m ≤ n) : MxSm n x := ⟨h.1.mono l, h.2.1.mono l, h.2.2.1.mono l, h.2.2.2.mono l⟩
theorem m1_sm : MxSm 1 m1 := ⟨by unfold Sm; decide, by unfold Sm; decide, by unfold Sm; decide, by unfold Sm; decide⟩
theorem matR_sm {r : List Pc} (hr : RowOk r) (hl : r.length ≤ 8) : MxSm 41 (matR r) := (fold_sm hr m1_sm).mono (by omega)
theorem scl_sm {r : List Pc} : ∀ {s : Int} {n : Nat}, RowOk r → Sm n s → Sm (n + 4 * r.length) (r.foldl stepS s) := by
  induction r with
  | nil => exact fun _ h => h
  | cons p r ih =>
    intro s n hr h
    rw [List.foldl_cons, List.length_cons]
    have e : n + 4 * (r.length + 1) = n + 4 + 4 * r.length := by omega
    rw [e]
    refine ih hr.tail ?_
    unfold stepS
    split
    · exact h.mono (by omega)
    · exact h.mul (ohm_sm hr.head)
theorem sclR_sm {r : List Pc} (hr : RowOk r) (hl : r.length ≤ 8) : Sm 41 (sclR r) := (scl_sm (n := 1) hr (by unfold Sm; decide)).mono (by omega)
theorem frt_sm {p : Pc} {e : Int × Int} {n : Nat} (hp : PcOk p) (h1 : Sm n e.1) (h2 : Sm n e.2) : Sm (n + 5) (frt p e).1 ∧ Sm (n + 5) (frt p e).2 := by
  have o := ohm_sm hp
  have up : ∀ {x : Int}, Sm n x → Sm (n + 4) x := fun z => z.mono (by omega)
  have c : ∀ {x y : Int}, Sm n x → Sm n y → Sm (n + 5) (x + p.2 * y) := fun hx hy => (up hx).add ((o.mul hy).mono (by omega))
  have c' : ∀ {x y : Int}, Sm n x → Sm n y → Sm (n + 5) (p.2 * y + x) := fun hx hy => by
    rw [Int.add_comm]
    exact c hx hy
  unfold frt
  split
  · exact ⟨c h1 h2, h2.mono (by omega)⟩
  · split
    · exact ⟨o.mono (by omega), Sm.mono (m := 1) (x := (1 : Int)) (by unfold Sm; decide) (by omega)⟩
    · exact ⟨(o.mul h1).mono (by omega), c' h1 h2⟩
theorem frtR_sm {r : List Pc} {e : Int × Int} {n : Nat} (hr : RowOk r) (h1 : Sm n e.1) (h2 : Sm n e.2) : Sm (n + 5 * r.length) (frtR r e).1 ∧ Sm (n + 5 * r.length) (frtR r e).2 := by
  induction r with
  | nil => exact ⟨h1, h2⟩
  | cons p r ih =>
    obtain ⟨a, b⟩ := ih hr.tail
    rw [List.length_cons]
    have e2 : n + 5 * (r.length + 1) = n + 5 * r.length + 5 := by omega
    rw [e2]
    exact frt_sm hr.head a b
theorem app_sm {m : Mx} {e : Int × Int} {j k : Nat} (h : MxSm j m) (h1 : Sm k e.1) (h2 : Sm k e.2) : Sm (j + k + 1) (m.app e).1 ∧ Sm (j + k + 1) (m.app e).2 :=
  ⟨(h.1.mul h1).add (h.2.1.mul h2), (h.2.2.1.mul h1).add (h.2.2.2.mul h2)⟩
theorem low_sm {e : Int × Int} {n : Nat} (h : Pos2 e) (h1 : Sm n e.1) (h2 : Sm n e.2) : Sm n (low e).1 ∧ Sm n (low e).2 := ⟨h1.div (gc_pos2 h), h2.div (gc_pos2 h)⟩
/-! ### what is shown rises with the load -/
def below (e f : Int × Int) : Bool := decide (e.1 * f.2 < f.1 * e.2)
theorem below_sc {j k : Int} (hj : 0 < j) (hk : 0 < k) (e f : Int × Int) : below (sc j e) (sc k f) = below e f := by
  unfold below sc
  rw [Bool.eq_iff_iff, decide_eq_true_iff, decide_eq_true_iff]
  dsimp
  have h : 0 < j * k := Int.mul_pos hj hk
  have e1 : j * e.1 * (k * f.2) = j * k * (e.1 * f.2) := by grind
  have e2 : k * f.1 * (j * e.2) = j * k * (f.1 * e.2) := by grind
  rw [e1, e2]
  exact ⟨fun z => Int.lt_of_mul_lt_mul_left z (Int.le_of_lt h), fun z => Int.mul_lt_mul_of_pos_left z h⟩
theorem below_app {m : Mx} (h : MxOk m) (e f : Int × Int) : below (m.app e) (m.app f) = below e f := by
  unfold below Mx.app
  rw [Bool.eq_iff_iff, decide_eq_true_iff, decide_eq_true_iff]
  dsimp
  obtain ⟨_, _, _, _, hd⟩ := h
  have e1 : (m.a * e.1 + m.b * e.2) * (m.c * f.1 + m.d * f.2) - (m.a * f.1 + m.b * f.2) * (m.c * e.1 + m.d * e.2) = (m.a * m.d - m.b * m.c) * (e.1 * f.2 - f.1 * e.2) := by grind
  constructor
  · intro z
    rcases Int.lt_or_le (e.1 * f.2 - f.1 * e.2) 0 with y | y
    · omega
    · have := Int.mul_nonneg (Int.le_of_lt hd) y
      omega
  · intro z
    have := Int.mul_neg_of_pos_of_neg hd (show e.1 * f.2 - f.1 * e.2 < 0 by omega)
    omega
theorem below_low {e f : Int × Int} (he : Pos2 e) (hf : Pos2 f) : below (low e) (low f) = below e f := by
  conv => rhs; rw [low_is he, low_is hf]
  rw [below_sc (gc_pos2 he) (gc_pos2 hf)]
theorem app_pos {r : List Pc} {e : Int × Int} (hr : RowOk r) (h : Pos2 e) : Pos2 ((matR r).app e) := by
  rw [mat_app]
  exact actR_pos hr h
theorem below_shows {r : List Pc} {e f : Int × Int} (hr : RowOk r) (he : Pos2 e) (hf : Pos2 f) : below (low (frtR r e)) (low (frtR r f)) = below e f := by
  rw [← shows_front hr he, ← shows_front hr hf, below_low (app_pos hr he) (app_pos hr hf), below_app (matR_ok hr)]
end RL

namespace RL
open PySem L2
def top (i : Nat) : Stmt := PySem.Challenge.pw_rungladders_k06_sets_of_numbers_made.main.body.getD i (.Pass ⟨0, 0, 0, 0⟩)
/-! ### a def as its callers see it -/
structure Df (P : Program) (w : World) (K : PySem.W.Frag) (mg : Str → Option Value) (base : Heap) (k : Nat) (x : Str) (ps : List Str) (sp : Sp) : Prop where
  ex : ∃ (f : Addr) (fd : FuncData), FnOk P w K mg base CX0 k f fd ps sp ∧ mg x = some (.ref f) ∧ PySem.W.keepIn K (.ref f) = true ∧ Binds K fd ps []
section
variable {X : Cx} {k : Nat} {ps : List Str} {sp : Sp} {x : Str} {p pos : Pos} {e : Expr} {es : List Expr} {t : TA}
theorem pe_df (D : Df X.prog X.w X.K X.mg X.base k x ps sp) (hr : Room k X.A) (hg : Gl X x)
    (ha : PA X (e :: es) t) (hdb : (x == ("__debug__" : Str)) = false := by decide) (he : starEach (e :: es) X.env = (false, eval e X.env) :: starEach es X.env := by rfl) (hpl : (backTo pos (starEach es X.env)).any (·.1) = false := by rfl) :
    PE X (.Call (.Name x p) (e :: es) [] pos) (tCall sp [] E0 t) := by
  obtain ⟨f, fd, G, hm, hk, hb⟩ := D.ex
  exact pe_call G hr hg hm hk hb .nil pass0 ha hdb he hpl
end
theorem pe_fldK {X : Cx} {K : PySem.W.Frag} {e : Expr} {f : Str} {pos : Pos} {ta : TE} (he : PE X e ta) (hK : X.K = K := by rfl) (hb : attributeBase e f X.env (eval e X.env) = eval e X.env := by rfl) : PE X (.Attribute e f pos) (tFld K ta f) := by
  subst hK
  exact pe_fld he hb
structure Txt (K : PySem.W.Frag) (mg : Str → Option Value) : Prop where
  len : mg "len" = none
  abs : mg "abs" = none
  int_ : mg "int" = none
  bool_ : mg "bool" = none
  tuple_ : mg "tuple" = none
  isinstance : mg "isinstance" = none
  divmod : mg "divmod" = none
  max : mg "max" = none
  min : mg "min" = none
  range : mg "range" = none
  all : mg "all" = none
  repr : mg "repr" = none
  str_ : mg "str" = none
  enumerate : mg "enumerate" = none
/-! ### heaps -/
def But (c : Addr) (H H' : Hp) : Prop := ∀ b o, b ≠ c → H b = some o → H' b = some o
theorem But.refl (c : Addr) (H : Hp) : But c H H := fun _ _ _ h => h
theorem But.trans {c : Addr} {H H1 H2 : Hp} (a : But c H H1) (b : But c H1 H2) : But c H H2 := fun x o n h => b x o n (a x o n h)
theorem But.of {c : Addr} {H H' : Hp} (h : Same H H') : But c H H' := fun x o _ e => h x o e
theorem same_upd {H : Hp} {p : Addr} {o : HO} (h : H p = none) : Same H (upd H p o) := fun b x e => by
  rw [upd_ne (ne_of_none e h)]
  exact e
theorem But.upd {c : Addr} {H : Hp} {o : HO} : But c H (upd H c o) := fun b x n e => by
  rw [upd_ne n]
  exact e
theorem But.free {c : Addr} {H H' : Hp} (e : But c H H') {l : Addr} (n : l ≠ c) (h : H' l = none) : H l = none := by
  cases q : H l with
  | none => rfl
  | some o =>
    rw [e l o n q] at h
    cases h
def CupAt (c : Addr) (H : Hp) : Prop := ∃ x y : Int, H c = some (.lst [.int x, .int y]) ∧ 0 ≤ x ∧ x < 2147483629 ∧ 0 ≤ y
theorem CupAt.same {c : Addr} {H H' : Hp} (h : CupAt c H) (s : Same H H') : CupAt c H' := by
  obtain ⟨x, y, a, b⟩ := h
  exact ⟨x, y, s _ _ a, b⟩
theorem CupAt.ne {c b : Addr} {H : Hp} (h : CupAt c H) (n : H b = none) : c ≠ b := by
  obtain ⟨x, y, a, _⟩ := h
  exact ne_of_none a n
/-! ### promises -/
def spCup (K : PySem.W.Frag) : Sp := fun vs H Q _ => ∃ (a : Addr) (ns : List Int) (i : Nat), vs = [.ref a, .int (i : Int)] ∧ SqL K H a (ns.map V.int) ∧ i ≤ 100 ∧ ns.length ≤ 63 ∧
  ∀ H' c, Same H H' → H c = none → CupAt c H' → Q (.ref c) H'
def spSip : Sp := fun vs H Q _ => ∃ (c : Addr) (m : Int), vs = [.ref c, .int m] ∧ CupAt c H ∧ 0 < m ∧ Sm 200 m ∧
  ∀ H' r, But c H H' → CupAt c H' → 0 ≤ r → r < m → Q (.int r) H'
def spPick : Sp := fun vs H Q _ => ∃ (c l : Addr) (xs : List V), vs = [.ref c, .ref l] ∧ CupAt c H ∧ c ≠ l ∧ H l = some (.lst xs) ∧ 0 < xs.length ∧ xs.length ≤ 100 ∧
  ∀ H' v, But c H H' → CupAt c H' → v ∈ xs → Q v H'
def spPair : Sp := fun vs H Q _ => ∃ (t b : Int), vs = [.int t, .int b] ∧ Pos2 (t, b) ∧ Sm 4000 t ∧ Sm 4000 b ∧
  ∀ H' p, Same H H' → H p = none → H' p = some (.tup [.int (low (t, b)).1, .int (low (t, b)).2]) → Q (.ref p) H'
section
variable {P : Program} {w : World} {K : PySem.W.Frag} {mg : Str → Option Value} {base : Heap}
abbrev s_law_sip : Stmt := top 21
theorem sc_law_sip : FnScope ["_law_cup_here", "_law_many", "_law_part"] ["_law_cup_here", "_law_many"] (defScope s_law_sip) := ⟨rfl, rfl, rfl, by decide +kernel, rfl, by decide +kernel, by decide +kernel⟩

theorem ok_sip {f : Addr} {fd : FuncData} (F : Fun K "_law_sip" "_law_sip" s_law_sip f fd) (T : Txt K mg) : FnOk P w K mg base CX0 1 f fd ["_law_cup_here", "_law_many"] spSip := by
  refine F.ok sc_law_sip (fun vs H Q E h => ?_) (fun cdv A outer s H vs Q E hr h => ?_)
  · obtain ⟨c, m, rfl, _⟩ := h
    rfl
  · obtain ⟨c, m, rfl, ⟨x, y, hc, x0, x1, y0⟩, m0, ms, k⟩ := h
    refine ⟨_, (pss_cons (ps_asg (pe_op op_mod (pe_callTy call_int1 (by rfl) T.int_ (by decide +kernel) (pa_cons (pe_op op_add (pe_op op_mul (pe_ix ix_list (pv 0) pe_int (fun _ _ => rfl)) pe_int) pe_int) pa_nil)) pe_int) (pg_sub (pv 0) pe_int set_list))
      (pss_cons (ps_if (pt_cmpR op_gt (pe_ix ix_list (pv 0) pe_int (fun _ _ => rfl)) pe_int (nomark _)) (pss_cons (ps_asg (pe_callB call_divmodW (by rfl) T.divmod (by decide +kernel) (pa_cons (pe_ix ix_list (pv 0) pe_int (fun _ _ => rfl)) (pa_cons (pv 1) pa_nil))) (pg_tup rfl (pgs_cons (pg_sub (pv 0) pe_int set_list) (pgs_cons (pg_name (i := 2) sc_law_sip.nd rfl (.inl rfl)) pgs_nil))))
      (pss_one (ps_ret (pv 2)))) pss_nil)
      (pss_one (ps_ret (pe_op op_mod (pe_callTy call_int1 (by rfl) T.int_ (by decide +kernel) (pa_cons (pe_op op_fdivW (pe_ix ix_list (pv 0) pe_int (fun _ _ => rfl)) pe_int) pa_nil)) (pv 1)))))), ?_⟩
    -- cup[0] = ..
    refine ⟨_, rfl, c, _, _, _, rfl, rfl, SqL.of hc, atI_nat (j := 0) rfl, _, _, rfl, rfl, .inr ⟨by decide, by decide⟩, _, _, rfl, rfl, .inl ⟨_, rfl, _, _, rfl, rfl, (by decide : (0 : Int) < 2147483629), _, rfl, c, _, _, _, rfl, rfl, hc, rfl, ?_⟩⟩
    have z0 : 0 ≤ (x * 48271 + 11) % 2147483629 := Int.emod_nonneg _ (by decide)
    have z1 : (x * 48271 + 11) % 2147483629 < 2147483629 := Int.emod_lt_of_pos _ (by decide)
    have hc1 : (upd H c (HO.lst ([V.int x, V.int y].set 0 (V.int ((x * 48271 + 11) % 2147483629))))) c = some (.lst [.int ((x * 48271 + 11) % 2147483629), .int y]) := upd_same
    have b1 : But c H (upd H c (HO.lst ([V.int x, V.int y].set 0 (V.int ((x * 48271 + 11) % 2147483629))))) := But.upd
    -- if cup[1] > 0
    refine ⟨_, rfl, c, _, _, _, rfl, rfl, SqL.of hc1, atI_nat (j := 1) rfl, _, _, rfl, rfl, _, rfl, ite2 (fun e => ?_) (fun e => ?_)⟩
    · have e0 : 0 < y := of_decide_eq_true e
      refine ⟨_, rfl, c, _, _, _, rfl, rfl, SqL.of hc1, atI_nat (j := 1) rfl, _, rfl, _, _, rfl, ⟨m0, PyProof.noPylong_of_log2 (PySem.Flt.log2_lt_of (by decide) (Nat.lt_of_lt_of_le ms (Nat.pow_le_pow_right (by decide) (by decide : 200 ≤ 9000))))⟩, fun p hp => ?_⟩
      have ncp : c ≠ p := ne_of_none hc1 hp
      have hc2 : (upd (upd H c (HO.lst ([V.int x, V.int y].set 0 (V.int ((x * 48271 + 11) % 2147483629))))) p (HO.tup [V.int (y / m), V.int (y % m)])) c = some (.lst [.int ((x * 48271 + 11) % 2147483629), .int y]) := by
        rw [upd_ne ncp]
        exact hc1
      refine ⟨p, _, rfl, SqT.of upd_same, rfl, _, _, rfl, _, rfl, c, _, _, _, rfl, rfl, hc2, rfl, _, _, rfl, rfl, _, rfl, ?_⟩
      refine k _ _ ?_ ⟨_, y / m, upd_same, z0, z1, Int.ediv_nonneg y0 (by omega)⟩ (Int.emod_nonneg _ (by omega)) (Int.emod_lt_of_pos _ m0)
      exact (b1.trans (But.of (same_upd hp))).trans But.upd
    · refine ⟨_, rfl, c, _, _, _, rfl, rfl, SqL.of hc1, atI_nat (j := 0) rfl, _, _, rfl, rfl, ⟨by decide, by decide⟩, .inl ⟨_, rfl, _, rfl, _, _, rfl, rfl, m0, ?_⟩⟩
      exact k _ _ b1 ⟨_, y, hc1, z0, z1, y0⟩ (Int.emod_nonneg _ (by omega)) (Int.emod_lt_of_pos _ m0)
abbrev s_law_pick : Stmt := top 22
theorem sc_law_pick : FnScope ["_law_cup_here", "_law_things"] ["_law_cup_here", "_law_things"] (defScope s_law_pick) := ⟨rfl, rfl, rfl, by decide +kernel, rfl, by decide +kernel, by decide +kernel⟩

theorem ok_pick {f : Addr} {fd : FuncData} (F : Fun K "_law_pick" "_law_pick" s_law_pick f fd) (T : Txt K mg) (D_law_sip : Df P w K mg base 1 "_law_sip" ["_law_cup_here", "_law_many"] spSip) : FnOk P w K mg base CX0 2 f fd ["_law_cup_here", "_law_things"] spPick := by
  refine F.ok sc_law_pick (fun vs H Q E h => ?_) (fun cdv A outer s H vs Q E hr h => ?_)
  · obtain ⟨c, l, xs, rfl, _⟩ := h
    rfl
  · obtain ⟨c, l, xs, rfl, hc, ncl, hl, l0, l1, k⟩ := h
    refine ⟨_, (pss_one (ps_ret (pe_ix ix_list (pv 1) (pe_df D_law_sip (hr.mono (by decide)) (by rfl) (pa_cons (pv 0) (pa_cons (pe_callB call_len_seq (by rfl) T.len (by decide +kernel) (pa_cons (pv 1) pa_nil)) pa_nil))) (fun _ _ => rfl)))), ?_⟩
    refine ⟨_, rfl, _, rfl, _, rfl, l, _, rfl, .inl (SqL.of hl), c, _, rfl, hc, (by omega), ?_, fun H' r b hc' r0 r1 => ?_⟩
    · unfold Sm
      have : (2 : Nat) ^ 7 ≤ 2 ^ 200 := Nat.pow_le_pow_right (by decide) (by decide)
      have : (2 : Nat) ^ 7 = 128 := by decide
      omega
    · obtain ⟨n, rfl⟩ := Int.eq_ofNat_of_zero_le r0
      have hn : n < xs.length := by omega
      refine ⟨l, xs, _, _, rfl, rfl, SqL.of (b _ _ ncl.symm hl), atI_nat (List.getElem?_eq_getElem hn), ?_⟩
      exact k _ _ b hc' (List.getElem_mem hn)
end
end RL

namespace RL
open PySem L2
section
variable {P : Program} {w : World} {K : PySem.W.Frag} {mg : Str → Option Value} {base : Heap}
theorem cutV2 (xs : List V) : cutV xs none (some 2) = xs.take 2 := by
  unfold cutV
  rw [HT.sIx_none, show HT.sIx xs.length xs.length (some 2) = min 2 xs.length from HT.sIx_nat xs.length xs.length 2]
  rw [Nat.sub_zero, List.drop_zero]
  rcases Nat.le_total 2 xs.length with h | h
  · rw [Nat.min_eq_left h]
  · rw [Nat.min_eq_right h, List.take_length, List.take_of_length_le h]
abbrev s_law_cup : Stmt := top 20
theorem sc_law_cup : FnScope ["_law_script", "_law_spot", "_law_cell", "_law_one"] ["_law_script", "_law_spot"] (defScope s_law_cup) := ⟨rfl, rfl, rfl, by decide +kernel, rfl, by decide +kernel, by decide +kernel⟩

theorem ok_cup {f : Addr} {fd : FuncData} (F : Fun K "_law_cup" "_law_cup" s_law_cup f fd) (T : Txt K mg) : FnOk P w K mg base CX0 1 f fd ["_law_script", "_law_spot"] (spCup K) := by
  refine F.ok sc_law_cup (fun vs H Q E h => ?_) (fun cdv A outer s H vs Q E hr h => ?_)
  · obtain ⟨a, ns, i, rfl, _⟩ := h
    rfl
  · obtain ⟨a, ns, i, rfl, hS, hi, hn, k⟩ := h
    refine ⟨_, (pss_cons (ps_set (i := 2) sc_law_cup.nd rfl (.inl rfl) (pe_ifExp (pt_cmpR op_lt (pv 1) (pe_callB call_len_seq (by rfl) T.len (by decide +kernel) (pa_cons (pv 0) pa_nil)) (nomark _)) (pe_ix ix_list (pv 0) (pv 1) (fun _ _ => rfl)) (pe_op op_add (pe_op op_mul pe_int (pv 1)) pe_int)))
      (pss_cons (ps_for PassesOwn.never rfl (pi_list (pe_ifExp (pt_cmpR op_ge (pv 1) (pe_callB call_len_seq (by rfl) T.len (by decide +kernel) (pa_cons (pv 0) pa_nil)) (nomark _)) (pe_slice sl_list (pv 0) po_none (po_some pe_int)) (pe_lst pa_nil))) (pg_name (i := 3) sc_law_cup.nd rfl (.inl rfl)) (pss_one (ps_set (i := 2) sc_law_cup.nd rfl (.inl rfl) (pe_op op_mod (pe_callTy call_int1 (by rfl) T.int_ (by decide +kernel) (pa_cons (pe_op op_add (pe_op op_mul (pv 2) pe_int) (pv 3)) pa_nil)) pe_int))))
      (pss_one (ps_ret (pe_lst (pa_cons (pe_op op_mod (pe_callTy call_int1 (by rfl) T.int_ (by decide +kernel) (pa_cons (pe_op op_add (pe_op op_add (pe_op op_mul (pv 2) pe_int) (pe_op op_mul pe_int (pv 1))) pe_int) pa_nil)) pe_int) (pa_cons (pe_ifExp (PW.pt (pw_or (pt_cmpR op_lt (pv 2) pe_int (nomark _)) (pw_or1 (pt_cmpR op_ge (pv 2) (pe_op op_pow pe_int pe_int) (nomark _))))) (pe_callB call_abs (by rfl) T.abs (by decide +kernel) (pa_cons (pv 2) pa_nil)) pe_int) pa_nil))))))), ?_⟩
    have hlen : (ns.map V.int).length = ns.length := List.length_map ..
    have isI : ∀ (xs : List Int) (j : Nat) (y : V), (xs.map V.int)[j]? = some y → ∃ u, y = V.int u := fun xs j y hj => by
      rw [List.getElem?_map] at hj
      cases q : xs[j]? with
      | none =>
        rw [q] at hj
        cases hj
      | some u =>
        rw [q] at hj
        exact ⟨u, (Option.some.inj hj).symm⟩
    refine ⟨_, rfl, _, rfl, a, _, rfl, .inl hS, _, _, rfl, rfl, _, rfl, ite2 (fun e => ?_) (fun e => ?_)⟩
    · have e0 : (i : Int) < (ns.map V.int).length := of_decide_eq_true e
      have hin : i < ns.length := by omega
      refine ⟨_, rfl, _, rfl, a, _, _, _, rfl, rfl, hS, atI_nat (v := V.int ns[i]) (by rw [List.getElem?_map, List.getElem?_eq_getElem hin]; rfl), ?_⟩
      refine ⟨_, rfl, _, rfl, a, _, rfl, .inl hS, _, _, rfl, rfl, _, rfl, ite2 (fun e2 => absurd (of_decide_eq_true e2) (by omega)) (fun e2 => ?_)⟩
      refine ⟨Nat.zero_le _, fun l hl0 => ?_⟩
      have sm : Same H (upd H l (.lst [])) := same_upd hl0
      have hl : SqL K (upd H l (.lst [])) l (([] : List Int).map V.int) := SqL.of upd_same
      refine ⟨l, rfl, ⟨_, hl⟩, for_list (K := K) (a := l) (xs := ([] : List Int).map V.int) (fun j σ H' => ∃ (c2 : Int) (v3 : Option V), σ = [some (.ref a), some (.int i), some (.int c2), v3] ∧ H' = upd H l (.lst [])) ⟨ns[i], none, rfl, rfl⟩ (fun _ _ _ _ h => by obtain ⟨_, _, _, rfl⟩ := h; exact hl) ?_ ?_⟩
      · rintro j y σ H' hj ⟨c2, v3, rfl, rfl⟩
        obtain ⟨u, rfl⟩ := isI _ _ _ hj
        refine ⟨_, rfl, _, _, rfl, rfl, .inr ⟨by decide, by decide⟩, _, rfl, _, _, rfl, rfl, .inl ⟨_, rfl, _, _, rfl, rfl, (by decide : (0 : Int) < 1000000007), ?_⟩⟩
        exact ⟨_, _, rfl, rfl⟩
      · rintro σ H' ⟨c2, v3, rfl, rfl⟩
        refine ⟨_, rfl, _, _, rfl, rfl, .inr ⟨by decide, by decide⟩, _, rfl, _, _, rfl, rfl, .inl ⟨by decide, by decide⟩, _, _, rfl, rfl, _, _, rfl, rfl, .inl ⟨_, rfl, _, _, rfl, rfl, (by decide : (0 : Int) < 2147483629), ?_⟩⟩
        have z0 : 0 ≤ (c2 * 4099 + 271 * (i : Int) + 17) % 2147483629 := Int.emod_nonneg _ (by decide)
        have z1 : (c2 * 4099 + 271 * (i : Int) + 17) % 2147483629 < 2147483629 := Int.emod_lt_of_pos _ (by decide)
        refine ⟨_, rfl, _, _, rfl, rfl, _, rfl, ite2 (fun e3 => ?_) (fun e3 => ?_)⟩
        · refine iteT ⟨_, rfl, _, rfl, (by show 2 ≤ sizeLine; decide), fun p hp => ?_⟩
          refine k _ p (sm.trans (same_upd hp)) (sm.free hp) ⟨_, _, upd_same, z0, z1, ?_⟩
          split <;> omega
        · refine ⟨_, rfl, _, _, rfl, rfl, ⟨by decide, by decide, by decide⟩, _, _, rfl, rfl, _, rfl, ite2 (fun e4 => ?_) (fun e4 => ?_)⟩
          · refine ⟨_, rfl, _, rfl, (by show 2 ≤ sizeLine; decide), fun p hp => ?_⟩
            refine k _ p (sm.trans (same_upd hp)) (sm.free hp) ⟨_, _, upd_same, z0, z1, ?_⟩
            split <;> omega
          · refine ⟨(by show 2 ≤ sizeLine; decide), fun p hp => ?_⟩
            exact k _ p (sm.trans (same_upd hp)) (sm.free hp) ⟨_, _, upd_same, z0, z1, by decide⟩
    · have e0 : ¬ (i : Int) < (ns.map V.int).length := fun z => e (decide_eq_true z)
      refine ⟨_, rfl, _, _, rfl, rfl, .inl ⟨by decide, by decide⟩, _, _, rfl, rfl, ?_⟩
      refine ⟨_, rfl, _, rfl, a, _, rfl, .inl hS, _, _, rfl, rfl, _, rfl, ite2 (fun e2 => ?_) (fun e2 => absurd (decide_eq_true (show ((ns.map V.int).length : Int) ≤ (i : Int) by omega)) e2)⟩
      refine ⟨_, rfl, 2, rfl, a, _, rfl, hS, fun l hl0 => ?_⟩
      have sm := same_upd (o := .lst (cutV (ns.map V.int) none (some 2))) hl0
      have hl : SqL K (upd H l (.lst (cutV (ns.map V.int) none (some 2)))) l ((ns.take 2).map V.int) := by
        refine SqL.of ?_
        rw [upd_same, cutV2, List.map_take]
      refine ⟨l, rfl, ⟨_, hl⟩, for_list (K := K) (a := l) (xs := (ns.take 2).map V.int) (fun j σ H' => ∃ (c2 : Int) (v3 : Option V), σ = [some (.ref a), some (.int i), some (.int c2), v3] ∧ H' = upd H l (.lst (cutV (ns.map V.int) none (some 2)))) ⟨_, none, rfl, rfl⟩ (fun _ _ _ _ h => by obtain ⟨_, _, _, rfl⟩ := h; exact hl) ?_ ?_⟩
      · rintro j y σ H' hj ⟨c2, v3, rfl, rfl⟩
        obtain ⟨u, rfl⟩ := isI _ _ _ hj
        refine ⟨_, rfl, _, _, rfl, rfl, .inr ⟨by decide, by decide⟩, _, rfl, _, _, rfl, rfl, .inl ⟨_, rfl, _, _, rfl, rfl, (by decide : (0 : Int) < 1000000007), ?_⟩⟩
        exact ⟨_, _, rfl, rfl⟩
      · rintro σ H' ⟨c2, v3, rfl, rfl⟩
        refine ⟨_, rfl, _, _, rfl, rfl, .inr ⟨by decide, by decide⟩, _, rfl, _, _, rfl, rfl, .inl ⟨by decide, by decide⟩, _, _, rfl, rfl, _, _, rfl, rfl, .inl ⟨_, rfl, _, _, rfl, rfl, (by decide : (0 : Int) < 2147483629), ?_⟩⟩
        have z0 : 0 ≤ (c2 * 4099 + 271 * (i : Int) + 17) % 2147483629 := Int.emod_nonneg _ (by decide)
        have z1 : (c2 * 4099 + 271 * (i : Int) + 17) % 2147483629 < 2147483629 := Int.emod_lt_of_pos _ (by decide)
        refine ⟨_, rfl, _, _, rfl, rfl, _, rfl, ite2 (fun e3 => ?_) (fun e3 => ?_)⟩
        · refine iteT ⟨_, rfl, _, rfl, (by show 2 ≤ sizeLine; decide), fun p hp => ?_⟩
          refine k _ p (sm.trans (same_upd hp)) (sm.free hp) ⟨_, _, upd_same, z0, z1, ?_⟩
          split <;> omega
        · refine ⟨_, rfl, _, _, rfl, rfl, ⟨by decide, by decide, by decide⟩, _, _, rfl, rfl, _, rfl, ite2 (fun e4 => ?_) (fun e4 => ?_)⟩
          · refine ⟨_, rfl, _, rfl, (by show 2 ≤ sizeLine; decide), fun p hp => ?_⟩
            refine k _ p (sm.trans (same_upd hp)) (sm.free hp) ⟨_, _, upd_same, z0, z1, ?_⟩
            split <;> omega
          · refine ⟨(by show 2 ≤ sizeLine; decide), fun p hp => ?_⟩
            exact k _ p (sm.trans (same_upd hp)) (sm.free hp) ⟨_, _, upd_same, z0, z1, by decide⟩
end
end RL

set_option maxHeartbeats 1000000
/-! for i, x in enumerate(t), t a tuple. -/
namespace RL
open PySem L2 PySem.Spec PyProof.Rows
open AutoSeq1 (wpAny_loadPart')
theorem meets_enumerate_newT (l : Addr) (items : Array Value) (n : Nat) (dct : Option Addr) (sl : Array (Option Value)) :
    Meets (Builtin.«enumerate.__new__» ⟨[.type "enumerate", .ref l], []⟩) (fun _ R s => s.heap.get? l = some { cls := .type "tuple", dict := dct, data := .seq items n, slots := sl } ∧
      R (.ok (.ret (.ref (s.heap.push { cls := .type "tuple_iterator", data := .fields #[.ref l, .int 0 0] }).objs.size)))
        { s with heap := (s.heap.push { cls := .type "tuple_iterator", data := .fields #[.ref l, .int 0 0] }).push { cls := .type "enumerate", data := .fields #[.none, .bool false, .ref s.heap.objs.size, rawInt 0, .none, .none] } }) :=
  .of_wp fun prog w A R s h => by
    obtain ⟨hp, g, d, tk, os⟩ := s; obtain ⟨hl, h⟩ := h
    have hsub := sub_enumerate
    have hL : Heap.IsTuple (Shared.heap ⟨hp, g, d, tk, os⟩) l items := ⟨_, hl, rfl, n, rfl⟩
    wp_walk using wpAny_loadPart' hl
    refine wpAny_stack_any fun st => wpAny_pure ?_
    split
    · rename_i c _ _ _ _ _
      cases (c == Value.type "enumerate")
      · wp_walk using wpAny_loadPart' hl, wpAny_pyIter_tuple hL
        exact ⟨_, rfl, h⟩
      · wp_walk using wpAny_loadPart' hl, wpAny_pyIter_tuple hL
        exact ⟨_, rfl, h⟩
    · wp_walk using wpAny_loadPart' hl, wpAny_pyIter_tuple hL
      exact ⟨_, rfl, h⟩
section
variable {prog : Program} {w : World} {A : Around} {E : Value → Shared → Prop} {s : Shared}
theorem call_enumerate_tuple {l : Addr} {items : Array Value} {Q : Value → Shared → Prop} (hL : s.heap.IsTuple l items)
    (h : ∀ h', IsEnum h' (s.heap.objs.size + 1) s.heap.objs.size 0 .none → h'.IsTupleIter s.heap.objs.size l 0 → h'.objs.size = s.heap.objs.size + 2 →
      (∀ b o, s.heap.get? b = some o → h'.get? b = some o) → Q (.ref (s.heap.objs.size + 1)) { s with heap := h' }) :
    wpAny (model prog w) A (call (.type "enumerate") [.ref l]) Q E s := by
  obtain ⟨⟨c, dct, dt, sl⟩, hl, hc, n, hd⟩ := hL
  replace hc : c = .type "tuple" := hc
  replace hd : dt = .seq items n := hd
  subst hc hd
  refine callType_new F.called_enumerate (by decide) (F.typeCall_enumerate_1 _) (F.newCall_enumerate_1 _) (fun obj => F.args_object_init_2 obj _) F.entry_enumerate_new
    (meets_enumerate_newT l items n dct sl) ⟨hl, ?_⟩
  have hz : (s.heap.push { cls := .type "tuple_iterator", data := .fields #[.ref l, .int 0 0] }).objs.size = s.heap.objs.size + 1 := Heap.size_push ..
  show _ ∧ _
  rw [hz]
  have he : IsEnum ((s.heap.push { cls := .type "tuple_iterator", data := .fields #[.ref l, .int 0 0] }).push
      { cls := .type "enumerate", data := .fields #[.none, .bool false, .ref s.heap.objs.size, rawInt 0, .none, .none] }) (s.heap.objs.size + 1) s.heap.objs.size 0 .none := by
    have := Heap.get?_push_size (s.heap.push { cls := .type "tuple_iterator", data := .fields #[.ref l, .int 0 0] })
      (o := { cls := .type "enumerate", data := .fields #[.none, .bool false, .ref s.heap.objs.size, rawInt 0, .none, .none] }) rfl
    rw [hz] at this; exact this
  refine ⟨⟨_, he, rfl⟩, h _ he ⟨_, Heap.get?_push_of_some _ (Heap.get?_push_size _ rfl), rfl, rfl⟩ (by rw [Heap.size_push, hz]) fun b o x => Heap.get?_push_of_some _ (Heap.get?_push_of_some _ x)⟩
end
/-- the tuple at a as it stands at each turn, each item in a new pair -/
def IteT (K : PySem.W.Frag) (a : Addr) : It :=
  ⟨fun i H => ∃ (xs : List V) (x : V), SqT K H a xs ∧ xs[i]? = some x, fun i H v H' => ∃ T x, v = .ref T ∧ H T = none ∧ H' = upd H T (.tup [.int (i : Nat), x]) ∧ ∀ xs, SqT K H a xs → xs[i]? = some x, fun i H => ∃ xs : List V, SqT K H a xs ∧ xs.length = i⟩
theorem turn_enumT {P : Program} {w : World} {K : PySem.W.Frag} {elts : List Expr} {kk : Nat} {tpos : Pos} (a e it : Addr) :
    Turn P w K (.Tuple elts kk tpos) (IteT K a) [e, it] e (fun i h => (∃ old, IsEnum h e it ((i : Nat) : Int) old) ∧ h.IsTupleIter it a i ∧ e ≠ it ∧ a ≠ it ∧ a ≠ e) where
  mem := by simp
  obj := fun i h st b hb => by
    obtain ⟨⟨old, he⟩, ⟨o, ho, hc, hd⟩, _⟩ := st
    have e' : b = e ∨ b = it := by simpa using hb
    rcases e' with z | z
    · rw [z]; exact ⟨_, he, fun v q => nomatch q⟩
    · rw [z]; exact ⟨o, ho, fun v q => by rw [hd] at q; cases q⟩
  keep := fun i h h' st k => let ⟨⟨old, he⟩, hi, hne⟩ := st; ⟨⟨old, k e (by simp) _ he⟩, hi.at fun o q => k it (by simp) o q, hne⟩
  item := by
    intro X hP hw hK hc i pins s σ H E I hf st hg
    subst hP hw hK
    obtain ⟨⟨old, he⟩, hit, hne, hai, hae⟩ := st
    obtain ⟨xs, x, hq, hx⟩ := hg
    obtain ⟨its, rv, p, hz⟩ := I.tuple hq
    obtain ⟨u, hu, ru⟩ := rv.get hx
    have hel : e < s.heap.objs.size := Heap.lt_size he
    have hil : it < s.heap.objs.size := by obtain ⟨_, q, _⟩ := hit; exact Heap.lt_size q
    have hi : i < its.toArray.size := by
      have := (List.getElem?_eq_some_iff.mp hu).1
      simpa using this
    refine wpAny_pyNext_enum_itemD (Draws.tuple (A := X.A.in1) (I.ok.hd hc) it a hai its.toArray) he ⟨hit, p⟩ hi hne (by simp [hne, Ne.symm hae]) fun x' h' tk hPx ho st' hT hsz hk => ?_
    have ex : x' = u := by
      have h1 : its.toArray[i]? = some u := by simpa using hu
      rw [h1] at hPx
      exact (Option.some.inj hPx).symm
    subst ex
    refine ⟨_, rfl, wpAny_letOwnedTupleGo_enum (s := { s with heap := h', toks := tk + 1 }) ho fun h'' he' sb => ?_⟩
    have hT2 : h''.get? s.heap.objs.size = some { cls := .type "tuple", data := .seq #[.int i tk, x'] } := (sb.2 _ (Nat.ne_of_gt hel)).trans hT
    have new : ObjOk X.prog X.w (upd H s.heap.objs.size (.tup [.int (i : Nat), x])) h'' s.heap.objs.size (.tup [.int (i : Nat), x]) :=
      ⟨by show 2 ≤ sizeLine; decide, [.int i tk, x'], .cons ⟨_, rfl⟩ (.cons ru .nil), ⟨_, hT2, rfl, _, rfl⟩⟩
    have I1 : Inv X pins σ (upd H s.heap.objs.size (.tup [.int (i : Nat), x])) { s with heap := h'', toks := tk + 1 } :=
      I.turnedNew (ch := [e, it]) (fun b ob hb q => (sb.2 b (fun z => hb (by simp [z]))).trans (hk b ob (fun z => hb (by simp [z])) (fun z => hb (by simp [z])) q)) hf (Nat.le_refl _) new
    refine ⟨.ref s.heap.objs.size, _, I1, rfl, ⟨_, x, rfl, I.hok.fresh (Nat.le_refl _), rfl, fun ys hy => by rw [I.tuple_inj hy hq]; exact hx⟩, ⟨⟨x', ?_⟩, st'.1.at fun o q => (sb.2 it (Ne.symm hne)).trans q, hne, hai, hae⟩, fun b hb => ?_⟩
    · have e1 : ((i + 1 : Nat) : Int) = (i : Int) + 1 := by omega
      rw [e1]; exact he'
    · have hb' : b < s.heap.objs.size := by
        have e' : b = e ∨ b = it := by simpa using hb
        rcases e' with z | z
        · rw [z]; exact hel
        · rw [z]; exact hil
      rw [upd_ne (Nat.ne_of_lt hb')]
      exact (hf b hb).1
  done := by
    intro X hP hw hK hc i pins s σ H E I hf st hg
    subst hP hw hK
    obtain ⟨⟨old, he⟩, hit, hne, hai, hae⟩ := st
    obtain ⟨xs, hq, hx⟩ := hg
    obtain ⟨its, rv, p, hz⟩ := I.tuple hq
    obtain ⟨f0, f1, f2, f3, f4, f5⟩ := hf it (by simp)
    have hl := rv.length
    have en : its.toArray.size = i := by simp; omega
    have hit' : s.heap.IsTupleIter it a its.toArray.size := by rw [en]; exact hit
    exact wpAny_pyNext_enum_endD (Draws.tuple (A := X.A.in1) (I.ok.hd hc) it a hai its.toArray) he ⟨hit', p⟩ fun h' eb => ⟨rfl, I.turned (t' := s.toks) (fun b o hb q => eb b o hb q) f0 f1 f3 f4 f5⟩
  self := fun A i s Q E st h => let ⟨⟨_, he⟩, _⟩ := st; wpAny_pyIter_enum he h
def iEnumT (K : PySem.W.Frag) (ta : TA) : TI := fun σ H R => ta σ H fun vs H1 => ∃ a xs, vs = [.ref a] ∧ SqT K H1 a xs ∧ R (IteT K a) H1
theorem pi_enumT {X : Cx} {e : Expr} {ta : TA} {p pos tpos : Pos} {elts : List Expr} {kk : Nat} (hg : Gl X "enumerate") (hm : X.mg "enumerate" = none) (ha : PA X [e] ta) (hs : starEach [e] X.env = [(false, eval e X.env)] := by rfl) :
    PI X (.Tuple elts kk tpos) (.Call (.Name "enumerate" p) [e] [] pos) (iEnumT X.K ta) := by
  refine ⟨fun pins s σ H R I h => ?_⟩
  refine Call_ (ld_blt I hg hm boot_enumerate (PyProof.Rows.callWith_type1 (thn (ha.run pos pins s σ H _ I h) fun us s1 ⟨vs, H1, I1, r1, q1⟩ => ?_) hs rfl))
  obtain ⟨a, xs, ex, hq, q⟩ := q1
  subst ex
  cases r1 with
  | cons r rr =>
    cases rr
    cases r
    obtain ⟨its, rv, p', hz⟩ := I1.tuple hq
    have hal : a < s1.heap.objs.size := by obtain ⟨o, ho, _⟩ := id p'; exact Heap.lt_size ho
    refine call_enumerate_tuple p' fun h' he hit hsz hk => wpAny_pyIter_enum he ?_
    have I2 : Inv X pins σ H1 { s1 with heap := h' } := I1.kept (t' := s1.toks) hk
    refine ⟨s1.heap.objs.size + 1, [s1.heap.objs.size + 1, s1.heap.objs.size], _, _, H1, rfl, I2, turn_enumT a (s1.heap.objs.size + 1) s1.heap.objs.size, ⟨⟨.none, he⟩, hit, Nat.succ_ne_self _, Nat.ne_of_lt hal, Nat.ne_of_lt (Nat.lt_succ_of_lt hal)⟩, fun b hb => ?_, q⟩
    have e' : b = s1.heap.objs.size + 1 ∨ b = s1.heap.objs.size := by simpa using hb
    have hle : s1.heap.objs.size ≤ b := by
      rcases e' with z | z
      · rw [z]; exact Nat.le_add_right _ _
      · rw [z]; exact Nat.le_refl _
    exact I1.fpOk hle (I1.hok.fresh hle)
/-- the loop, for a tuple that stands in the heap and whose places are alike by the invariant -/
theorem for_enumT {K : PySem.W.Frag} {a : Addr} {xs : List V} {g : TG} {tb : TS} {D : Ends} {σ : L2.St} {H : Hp} (Pv : Nat → L2.St → Hp → Prop) (h0 : Pv 0 σ H) (hl : ∀ i σ H, i ≤ xs.length → Pv i σ H → SqT K H a xs)
    (hs : ∀ i x σ H T, xs[i]? = some x → Pv i σ H → H T = none → g (.ref T) σ (upd H T (.tup [.int (i : Nat), x])) fun σ2 H2 => tb { D with nx := Pv (i + 1), ct := Pv (i + 1), bk := D.nx } σ2 H2) (hd : ∀ σ H, Pv xs.length σ H → D.nx σ H) :
    ∃ W : Nat → Nat → L2.St → Hp → Prop, (∃ m, W 0 m σ H) ∧ ∀ i m σ H, W i m σ H →
      ((IteT K a).stop i H ∧ D.nx σ H) ∨ ((IteT K a).go i H ∧ ∃ N : L2.St → Hp → Prop, (∀ σ' H', N σ' H' → ∃ m', m' < m ∧ W (i + 1) m' σ' H') ∧ ∀ x H', (IteT K a).yld i H x H' → g x σ H' fun σ2 H2 => tb { D with nx := N, ct := N, bk := D.nx } σ2 H2) := by
  refine ⟨fun i m σ H => m = xs.length - i ∧ i ≤ xs.length ∧ Pv i σ H, ⟨xs.length, by simp, Nat.zero_le _, h0⟩, ?_⟩
  rintro i m σ H ⟨rfl, hi, p⟩
  have q := hl i σ H hi p
  by_cases hlt : i < xs.length
  · refine .inr ⟨⟨xs, xs[i], q, by simp [hlt]⟩, Pv (i + 1), fun σ' H' p' => ⟨xs.length - (i + 1), by omega, rfl, hlt, p'⟩, fun x H' y => ?_⟩
    obtain ⟨T, x', rfl, nT, rfl, hx⟩ := y
    exact hs i x' σ H T (hx xs q) p nT
  · have : i = xs.length := by omega
    subst this
    exact .inl ⟨⟨xs, q, rfl⟩, hd σ H p⟩
/-- a def by position, as a promise of its arguments alone -/
theorem fnR_mk {P : Program} {w : World} {K : PySem.W.Frag} {mg : Str → Option Value} {base : Heap} {k : Nat} {g : Addr} {fd : FuncData} {ps : List Str} {sp : Sp} (F : FnOk P w K mg base CX0 k g fd ps sp) (hb : Binds K fd ps []) : FnR P w K mg base CX0 k g sp := by
  intro A outer s H us vs Q E hr e0 r h
  have hl : (us ++ []).length = ps.length := by
    rw [List.append_nil, ← r.length]
    exact F.len _ _ _ _ h
  have KX : K.In s.heap := e0.mod.kin.keeps fun b o e => (e0.bs b o e).1
  have hbb := hb s us KX hl
  rw [List.append_nil] at hbb
  exact F.run A outer s H ⟨us, []⟩ us vs Q E hr e0 hbb r h
end RL

set_option maxHeartbeats 1000000
/-! An own unary operator; `x in o` by an own __contains__; C(*y). -/
namespace RL
open PySem L2 PySem.Spec PyProof.Rows PySem.W
section
variable {X : Cx} {k : Nat} {ps : List Str} {sp : Sp} {C g : Addr} {fd : FuncData}
def rUnOwn (C : Addr) (sp : Sp) : V → Hp → VK → Prop := fun x H Q => ∃ a dx fs, x = .ref a ∧ H a = some (.ins C dx fs) ∧ sp [x] H Q E0
theorem un_invOwn (hs : PySem.W.findIn X.K (.ref C) "__invert__" = some (some (.ref g))) (hf : PySem.W.isFn X.K (.ref g) = true) (F : FnOk X.prog X.w X.K X.mg X.base CX0 k g fd ps sp) (hb : Binds X.K fd ps []) (hr : Room k X.A) :
    UnR X (unaryOp .Invert) (rUnOwn C sp) := by
  intro pins s σ H x v Q I rx h
  obtain ⟨a, dx, fs, rfl, ha, q⟩ := h
  cases (show v = Value.ref a from rx)
  obtain ⟨mA, O, _⟩ := ins_get I.hok ha
  obtain ⟨od, J, _⟩ := O.look
  obtain ⟨m, hF⟩ := I.fr
  refine PySem.W.ksp_inv hF I.ok.mod.kin J hs hf ?_
  have q0 : sp ([.ref a] ++ []) H Q E0 := q
  exact run_fn (us := [.ref a]) (vs := [.ref a]) F hr hb .nil pass0 I (.cons rfl .nil) q0
def rInOwn (C : Addr) (sp : Sp) : R2 := fun x y H Q => ∃ a dx fs, y = .ref a ∧ H a = some (.ins C dx fs) ∧ sp [y, x] H (fun z H' => ∃ b : Bool, z = .bl b ∧ Q (.bl b) H') E0
theorem op_inOwn (hs : PySem.W.findIn X.K (.ref C) "__contains__" = some (some (.ref g))) (hf : PySem.W.isFn X.K (.ref g) = true) (F : FnOk X.prog X.w X.K X.mg X.base CX0 k g fd ps sp) (hb : Binds X.K fd ps []) (hr : Room k X.A) :
    OpR X (compareOp .In) (rInOwn C sp) := by
  intro pins s σ H x y v u Q I rx ry h
  obtain ⟨a, dx, fs, rfl, ha, q⟩ := h
  cases (show u = Value.ref a from ry)
  obtain ⟨mA, O, _⟩ := ins_get I.hok ha
  obtain ⟨od, J, _⟩ := O.look
  obtain ⟨m, hF⟩ := I.fr
  refine PySem.W.in_K hF I.ok.mod.kin J hs hf ?_
  have q0 : sp ([.ref a, x] ++ []) H _ E0 := q
  refine wpAny_mono (run_fn (us := [.ref a, v]) (vs := [.ref a, x]) F hr hb .nil pass0 I (.cons rfl (.cons rx .nil)) q0) (fun w s' z => ?_) fun _ _ z => z
  obtain ⟨z', H', I', rz, b, rfl, qz⟩ := z
  cases (show w = Value.bool b from rz)
  exact wpAny_truthy_bool ⟨.bl b, H', I', rfl, qz⟩
end
section
variable {X : Cx} {CX : CXT} {k : Nat} {f C : Addr} {sp : Sp} {E : XK} {x : Str} {e : Expr} {te : TE} {p pos sp_ : Pos}
theorem pe_makeS1 (M : Mk X.K C f) (F : FnR X.prog X.w X.K X.mg X.base CX k f sp) (hr : Room (k + 1) X.A) (hg : Gl X x) (hm : X.mg x = some (.ref C)) (hx : Passes CX X E) (he : PE X e te) (hd : (x == ("__debug__" : Str)) = false := by decide)
    (hst : starEach [.Starred e sp_] X.env = [(true, eval e X.env)] := by rfl) :
    PE X (.Call (.Name x p) [.Starred e sp_] [] pos) (fun σ H Q => te σ H fun y H1 => ∃ a xs, y = V.ref a ∧ (SqT X.K H1 a xs ∨ SqL X.K H1 a xs) ∧ ∀ z dz, H1 z = Option.none → H1 dz = Option.none → dz ≠ z → sp (V.ref z :: xs) (upd (upd H1 dz (.own z)) z (.ins C dz [])) (fun v H2 => v = .non ∧ Q (.ref z) H2) E) := by
  refine ⟨fun pins s σ H Q I h => ?_⟩
  refine wpAny_Call_Name_kw (ld_glob I hg hm ?_ hd)
  refine PySem.W.callWith_S (h₀ := X.base) I.ok.mod.kin M.kp (thn (he.run pins s σ H _ I h) fun v s1 ⟨y, H1, I1, ry, a, xs, ey, hxs, q⟩ => ?_) hst
  subst ey
  obtain rfl : v = Value.ref a := ry
  exact StX.star_any I1 hxs fun us s2 I2 rv => ⟨I2.kIn, StX.run_makeR M F hr hx I2 rv q⟩
theorem pe_makeR0 (M : Mk X.K C f) (F : FnR X.prog X.w X.K X.mg X.base CX k f sp) (hr : Room (k + 1) X.A) (hg : Gl X x) (hm : X.mg x = some (.ref C)) (hx : Passes CX X E)
    (hdb : (x == ("__debug__" : Str)) = false := by decide) : PE X (.Call (.Name x p) [] [] pos) (StX.tMakeR C sp E tNil) := by
  refine ⟨fun pins s σ H Q I h => ?_⟩
  refine wpAny_Call_Name_kw (ld_glob I hg hm ?_ hdb)
  exact PySem.W.callWith_K0 I.kIn M.kp (StX.run_makeR M F hr hx I .nil h)
end
end RL

namespace RL
open PySem L2
/-! ### data that repr shows, put together -/
structure Tame (w h : Nat) (d : PyData) : Prop where
  s : d.showable = true
  n : d.hasDict = false
  v : d.leavesShort 300 = true
  w_ : d.weight ≤ w
  d_ : d.depth ≤ h
theorem Tame.shows {w h : Nat} {d : PyData} (t : Tame w h d) (hw : w ≤ 10000 := by decide) (hh : h ≤ 40 := by decide) : Shows d := by
  refine ⟨t.s, t.n, Nat.le_trans t.d_ hh, ?_⟩
  have e := PyData.shown_le 300 (by decide) d t.v
  have := Nat.le_trans t.w_ hw
  rw [sizeLine_eq]
  omega
theorem Tame.mono {w h w' h' : Nat} {d : PyData} (t : Tame w h d) (hw : w ≤ w' := by decide) (hh : h ≤ h' := by decide) : Tame w' h' d := ⟨t.s, t.n, t.v, Nat.le_trans t.w_ hw, Nat.le_trans t.d_ hh⟩
theorem tame_int {i : Int} (h : Sm 200 i) : Tame 200 0 (.int i) := by
  obtain ⟨a, b, c⟩ := show_int h
  exact ⟨a, by simp only [PyData.hasDict], b, c, by simp only [PyData.depth]; exact Nat.le_refl _⟩
theorem tame_all {w h : Nat} : ∀ {xs : List PyData}, (∀ d ∈ xs, Tame w h d) → PyData.showableAll xs = true ∧ PyData.hasDictAll xs = false ∧ PyData.leavesShortAll 300 xs = true ∧ PyData.weightAll xs ≤ xs.length * (w + 1) ∧ PyData.depthAll xs ≤ h
  | [], _ => ⟨by simp only [PyData.showableAll], by simp only [PyData.hasDictAll], by simp only [PyData.leavesShortAll], by simp [PyData.weightAll], by simp [PyData.depthAll]⟩
  | x :: xs, H => by
    obtain ⟨a, b, c, d, e⟩ := H x List.mem_cons_self
    obtain ⟨a', b', c', d', e'⟩ := tame_all fun z hz => H z (List.mem_cons_of_mem _ hz)
    refine ⟨by simp only [PyData.showableAll, a, a', Bool.and_self], by simp only [PyData.hasDictAll, b, b', Bool.or_self], by simp only [PyData.leavesShortAll, c, c', Bool.and_self], ?_, ?_⟩
    · simp only [PyData.weightAll, List.length_cons]
      have : (xs.length + 1) * (w + 1) = xs.length * (w + 1) + (w + 1) := Nat.succ_mul _ _
      omega
    · simp only [PyData.depthAll]
      omega
theorem tame_tup {w h : Nat} {xs : List PyData} (H : ∀ d ∈ xs, Tame w h d) : Tame (xs.length * (w + 1)) (h + 1) (.tuple xs) := by
  obtain ⟨a, b, c, d, e⟩ := tame_all H
  exact ⟨by simp only [PyData.showable, a], by simp only [PyData.hasDict, b], by simp only [PyData.leavesShort, c], by simp only [PyData.weight]; exact d, by simp only [PyData.depth]; omega⟩
theorem tame_lst {w h : Nat} {xs : List PyData} (H : ∀ d ∈ xs, Tame w h d) : Tame (xs.length * (w + 1)) (h + 1) (.list xs) := by
  obtain ⟨a, b, c, d, e⟩ := tame_all H
  exact ⟨by simp only [PyData.showable, a], by simp only [PyData.hasDict, b], by simp only [PyData.leavesShort, c], by simp only [PyData.weight]; exact d, by simp only [PyData.depth]; omega⟩
theorem tame_2 {w h : Nat} {x y : PyData} (hx : Tame w h x) (hy : Tame w h y) : Tame (2 * (w + 1)) (h + 1) (.tuple [x, y]) := tame_tup (xs := [x, y]) fun d hd => by
  simp only [List.mem_cons, List.not_mem_nil, or_false] at hd
  rcases hd with rfl | rfl
  · exact hx
  · exact hy
theorem tame_l2 {w h : Nat} {x y : PyData} (hx : Tame w h x) (hy : Tame w h y) : Tame (2 * (w + 1)) (h + 1) (.list [x, y]) := tame_lst (xs := [x, y]) fun d hd => by
  simp only [List.mem_cons, List.not_mem_nil, or_false] at hd
  rcases hd with rfl | rfl
  · exact hx
  · exact hy
end RL

set_option maxHeartbeats 1000000
namespace RL
open PySem L2 PySem.Spec PyProof.Rows
/-- a def with a star parameter behind one -/
def star1 (sp : Sp) : Sp := fun vs H Q E => ∃ ws rest, vs = ws ++ rest ∧ ws.length = 1 ∧ rest.length ≤ sizeLine ∧ ∀ p, H p = Option.none → sp (ws ++ [V.ref p]) (L2.upd H p (.tup rest)) Q E
theorem okStar {P : Program} {w : World} {K : PySem.W.Frag} {mg : Str → Option Value} {base : Heap} {x qual : Str} {st : Stmt} {f : Addr} {fd : FuncData} {N : List Str} {p1 pv : Str} {k : Nat} {sp : Sp} (F : Fun K x qual st f fd) (S : FnScope N ([p1] ++ [pv]) (defScope st))
    (hb : ∀ (kV doc pm cdv ct : Value) (an : Option Addr) (us rest : List Value), us.length = [p1].length → bindArgs (PySem.W.fnOf x qual (defArgs st) (defBody st) (defScope st) .none kV doc pm an cdv ct) ⟨us ++ rest, []⟩ = (newTuple rest >>= fun t => pure ([p1].zip us ++ [(pv, t)])))
    (hbody : ∀ (cdv : Value) (A : Around) (outer : List Env) (s : Shared) (H : Hp) (vs : List V) (Q : VK) (E : XK), Room k (A.deeper (envOfC qual (defScope st) s.heap.objs.size f cdv)) → sp vs H Q E →
      ∃ t, PSs (cxOf CX0 P w K mg base N qual (defScope st) f cdv A outer s H E).nox (defBody st) t ∧ t { nx := fun _ H' => Q .non H', rt := Q } (start N vs) H) : FnR P w K mg base CX0 (k + 1) f (star1 sp) := by
  obtain ⟨oc, od, kV, doc, pm, an, cdv, ct, osl, rfl, lk, hcd⟩ := F.ex
  exact StX.fn_star (ps := [p1]) lk hcd S StX.cxUp_none (hb kV doc pm cdv ct an) fun A outer s H vs Q E hr hsp => by
    obtain ⟨t, h, q⟩ := hbody cdv A outer s H vs Q E hr hsp
    exact ⟨t, h.nox, q⟩
structure IsC (K : PySem.W.Frag) (C : Addr) : Prop where
  ca : PySem.W.findIn K (.ref C) "__class__" = some (some (.builtin "object.__class__"))
  cn : PySem.W.specialIn K (.builtin "object.__class__") "__get__" = some (some (.builtin "getset_descriptor.__get__"))
  ct : PySem.W.takesIn K (.builtin "object.__class__") = some true
  cm : PySem.W.mroIn K C (.type "object") = some true
  is_ : PySem.W.kitOne K (.ref C) (.ref C) = some true
  nf : PySem.W.notFirst K C (.ref C) = true
theorem ix_tupK {X : Cx} {K : PySem.W.Frag} (hK : X.K = K := by rfl) : IxR X (rIxT K) := by
  subst hK
  exact ix_tup
theorem ix_listK {X : Cx} {K : PySem.W.Frag} (hK : X.K = K := by rfl) : IxR X (rIxL K) := by
  subst hK
  exact ix_list
theorem both {R G : Prop} (f : R → G) (r : R) : G := f r
theorem ne_selfV (v : V) : ¬ (!decide (v = v)) = true := by
  rw [decide_eq_true rfl]
  decide
theorem units65 {k : Nat} {A : Around} (r : Room k A) : A.units + 65 < cLine := by
  have := r.un
  omega
end RL

namespace RL
/-! ### rows of stretches -/
abbrev Sh := Int × Option Int
def inS (s : Sh) (n : Int) : Prop := s.1 ≤ n ∧ ∀ l, s.2 = some l → n ≤ l
def held (r : List Sh) (n : Int) : Prop := ∃ s ∈ r, inS s n
/-- a row that begins at b or behind it, ascending, no two touching -/
def Form : Int → List Sh → Prop
  | _, [] => True
  | b, (f, none) :: r => b ≤ f ∧ r = []
  | b, (f, some l) :: r => b ≤ f ∧ f ≤ l ∧ Form (l + 2) r
def gapsF : Int → List Sh → List Sh
  | b, [] => [(b, none)]
  | b, (f, l) :: r => (if b < f then [(b, some (f - 1))] else []) ++ (match l with | none => [] | some l => gapsF (l + 1) r)
theorem held_nil (n : Int) : ¬ held [] n := fun ⟨s, h, _⟩ => by cases h
theorem held_cons (s : Sh) (r : List Sh) (n : Int) : held (s :: r) n ↔ inS s n ∨ held r n := by
  constructor
  · rintro ⟨t, h, q⟩
    rcases List.mem_cons.mp h with rfl | h
    · exact .inl q
    · exact .inr ⟨t, h, q⟩
  · rintro (q | ⟨t, h, q⟩)
    · exact ⟨s, List.mem_cons_self, q⟩
    · exact ⟨t, List.mem_cons_of_mem _ h, q⟩
theorem held_app (r r' : List Sh) (n : Int) : held (r ++ r') n ↔ held r n ∨ held r' n := by
  induction r with
  | nil => simp [held_nil]
  | cons s r ih => rw [List.cons_append, held_cons, held_cons, ih, or_assoc]
theorem inS_none (f n : Int) : inS (f, none) n ↔ f ≤ n := ⟨fun h => h.1, fun h => ⟨h, fun l e => by cases e⟩⟩
theorem inS_some (f l n : Int) : inS (f, some l) n ↔ f ≤ n ∧ n ≤ l := ⟨fun h => ⟨h.1, h.2 l rfl⟩, fun h => ⟨h.1, fun k e => by cases e; exact h.2⟩⟩
theorem Form.ge : ∀ {r : List Sh} {b n : Int}, Form b r → held r n → b ≤ n
  | [], _, n, _, h => absurd h (held_nil n)
  | (f, none) :: r, b, n, h, q => by
    obtain ⟨h1, rfl⟩ := h
    rcases (held_cons _ _ _).mp q with q | q
    · have := (inS_none _ _).mp q
      omega
    · exact absurd q (held_nil n)
  | (f, some l) :: r, b, n, h, q => by
    obtain ⟨h1, h2, h3⟩ := h
    rcases (held_cons _ _ _).mp q with q | q
    · have := (inS_some _ _ _).mp q
      omega
    · have := Form.ge h3 q
      omega
theorem Form.weak : ∀ {r : List Sh} {b b' : Int}, Form b r → b' ≤ b → Form b' r
  | [], _, _, _, _ => trivial
  | (f, none) :: r, b, b', h, q => ⟨Int.le_trans q h.1, h.2⟩
  | (f, some l) :: r, b, b', h, q => ⟨Int.le_trans q h.1, h.2⟩
theorem held_gaps : ∀ {r : List Sh} {b : Int}, Form b r → ∀ n, held (gapsF b r) n ↔ b ≤ n ∧ ¬ held r n
  | [], b, _, n => by
    unfold gapsF
    rw [held_cons, inS_none]
    simp [held_nil]
  | (f, none) :: r, b, h, n => by
    obtain ⟨h1, rfl⟩ := h
    unfold gapsF
    rw [held_app, held_cons, inS_none]
    simp only [held_nil, or_false]
    split
    · rw [held_cons, inS_some]
      simp only [held_nil, or_false]
      omega
    · simp only [held_nil]
      constructor
      · intro q
        exact q.elim
      · rintro ⟨q, z⟩
        exact (z (by omega)).elim
  | (f, some l) :: r, b, h, n => by
    obtain ⟨h1, h2, h3⟩ := h
    have ih := held_gaps (h3.weak (show l + 1 ≤ l + 2 by omega)) n
    have ge : held r n → l + 2 ≤ n := Form.ge h3
    unfold gapsF
    rw [held_app, held_cons, inS_some]
    dsimp only
    rw [ih]
    split
    · rw [held_cons, inS_some]
      simp only [held_nil, or_false]
      constructor
      · rintro (q | ⟨q, z⟩)
        · exact ⟨by omega, fun y => by
            rcases y with y | y
            · omega
            · have := ge y
              omega⟩
        · exact ⟨by omega, fun y => by
            rcases y with y | y
            · omega
            · exact z y⟩
      · rintro ⟨q, z⟩
        rcases Int.lt_or_le n f with y | y
        · exact .inl (by omega)
        · refine .inr ⟨?_, fun w => z (.inr w)⟩
          rcases Int.lt_or_le l n with u | u
          · omega
          · exact absurd (.inl ⟨y, u⟩) z
    · simp only [held_nil, false_or]
      constructor
      · rintro ⟨q, z⟩
        exact ⟨by omega, fun y => by
          rcases y with y | y
          · omega
          · exact z y⟩
      · rintro ⟨q, z⟩
        refine ⟨?_, fun w => z (.inr w)⟩
        rcases Int.lt_or_le l n with u | u
        · omega
        · exact absurd (.inl ⟨by omega, u⟩) z
/-- the gaps of a row that begins behind b are a row again -/
theorem form_gaps : ∀ {r : List Sh} {b : Int}, Form b r → Form b (gapsF b r)
  | [], b, _ => ⟨Int.le_refl _, rfl⟩
  | (f, none) :: r, b, h => by
    unfold gapsF
    split
    · exact ⟨Int.le_refl _, by omega, trivial⟩
    · trivial
  | (f, some l) :: r, b, h => by
    obtain ⟨h1, h2, h3⟩ := h
    have ih := form_gaps (h3.weak (show l + 1 ≤ l + 2 by omega))
    unfold gapsF
    split
    · exact ⟨Int.le_refl _, by omega, ih.weak (by omega)⟩
    · exact ih.weak (by omega)
/-- a row is fixed by what it holds -/
theorem canon : ∀ {r r' : List Sh} {b : Int}, Form b r → Form b r' → (∀ n, held r n ↔ held r' n) → r = r'
  | [], [], _, _, _, _ => rfl
  | [], (f, none) :: r', b, _, h', e => absurd ((e f).mpr ((held_cons _ _ _).mpr (.inl ((inS_none _ _).mpr (Int.le_refl _))))) (held_nil _)
  | [], (f, some l) :: r', b, _, h', e => absurd ((e f).mpr ((held_cons _ _ _).mpr (.inl ((inS_some _ _ _).mpr ⟨Int.le_refl _, h'.2.1⟩)))) (held_nil _)
  | (f, none) :: r, [], b, h, _, e => absurd ((e f).mp ((held_cons _ _ _).mpr (.inl ((inS_none _ _).mpr (Int.le_refl _))))) (held_nil _)
  | (f, some l) :: r, [], b, h, _, e => absurd ((e f).mp ((held_cons _ _ _).mpr (.inl ((inS_some _ _ _).mpr ⟨Int.le_refl _, h.2.1⟩)))) (held_nil _)
  | (f, lo) :: r, (f', lo') :: r', b, h, h', e => by
    have first : ∀ {g : Int} {m : Option Int} {t : List Sh}, Form b ((g, m) :: t) → held ((g, m) :: t) g ∧ ∀ n, held ((g, m) :: t) n → g ≤ n := fun {g m t} q => by
      cases m with
      | none =>
        obtain ⟨q1, rfl⟩ := q
        refine ⟨(held_cons _ _ _).mpr (.inl ((inS_none _ _).mpr (Int.le_refl _))), fun n z => ?_⟩
        rcases (held_cons _ _ _).mp z with z | z
        · exact z.1
        · exact absurd z (held_nil _)
      | some l =>
        obtain ⟨q1, q2, q3⟩ := q
        refine ⟨(held_cons _ _ _).mpr (.inl ((inS_some _ _ _).mpr ⟨Int.le_refl _, q2⟩)), fun n z => ?_⟩
        rcases (held_cons _ _ _).mp z with z | z
        · exact z.1
        · have := Form.ge q3 z
          omega
    obtain ⟨a1, a2⟩ := first h
    obtain ⟨c1, c2⟩ := first h'
    have ef : f = f' := Int.le_antisymm (a2 _ ((e _).mpr c1)) (c2 _ ((e _).mp a1))
    subst ef
    cases lo with
    | none =>
      obtain ⟨h1, rfl⟩ := h
      cases lo' with
      | none =>
        obtain ⟨h2, rfl⟩ := h'
        rfl
      | some l' =>
        obtain ⟨k1, k2, k3⟩ := h'
        have z := (e (l' + 1)).mp ((held_cons _ _ _).mpr (.inl ((inS_none _ _).mpr (by omega))))
        rcases (held_cons _ _ _).mp z with z | z
        · have := (inS_some _ _ _).mp z
          omega
        · have := Form.ge k3 z
          omega
    | some l =>
      obtain ⟨h1, h2, h3⟩ := h
      cases lo' with
      | none =>
        obtain ⟨k1, rfl⟩ := h'
        have z := (e (l + 1)).mpr ((held_cons _ _ _).mpr (.inl ((inS_none _ _).mpr (by omega))))
        rcases (held_cons _ _ _).mp z with z | z
        · have := (inS_some _ _ _).mp z
          omega
        · have := Form.ge h3 z
          omega
      | some l' =>
        obtain ⟨k1, k2, k3⟩ := h'
        have el : l = l' := by
          rcases Int.lt_trichotomy l l' with y | y | y
          · have z := (e (l + 1)).mpr ((held_cons _ _ _).mpr (.inl ((inS_some _ _ _).mpr (by omega))))
            rcases (held_cons _ _ _).mp z with z | z
            · have := (inS_some _ _ _).mp z
              omega
            · have := Form.ge h3 z
              omega
          · exact y
          · have z := (e (l' + 1)).mp ((held_cons _ _ _).mpr (.inl ((inS_some _ _ _).mpr (by omega))))
            rcases (held_cons _ _ _).mp z with z | z
            · have := (inS_some _ _ _).mp z
              omega
            · have := Form.ge k3 z
              omega
        subst el
        have er : r = r' := canon h3 k3 fun n => by
          have q := e n
          rw [held_cons, held_cons, inS_some] at q
          constructor
          · intro z
            have := Form.ge h3 z
            rcases q.mp (.inr z) with y | y
            · omega
            · exact y
          · intro z
            have := Form.ge k3 z
            rcases q.mpr (.inr z) with y | y
            · omega
            · exact y
        rw [er]
end RL

namespace RL
/-! ### what two rows of stretches have in common -/
def minO : Option Int → Option Int → Option Int
  | none, o => o
  | some l, none => some l
  | some l, some m => some (if l ≤ m then l else m)
def maxI (f g : Int) : Int := if f ≤ g then g else f
def endOk (b : Int) : Option Int → Bool
  | none => true
  | some e => decide (b ≤ e)
def cut2 (s t : Sh) : List Sh := if endOk (maxI s.1 t.1) (minO s.2 t.2) = true then [(maxI s.1 t.1, minO s.2 t.2)] else []
def commonR (r r' : List Sh) : List Sh := r.flatMap fun s => r'.flatMap fun t => cut2 s t
theorem held_flat (r : List Sh) (g : Sh → List Sh) (n : Int) : held (r.flatMap g) n ↔ ∃ s ∈ r, held (g s) n := by
  constructor
  · rintro ⟨t, h, q⟩
    obtain ⟨s, hs, ht⟩ := List.mem_flatMap.mp h
    exact ⟨s, hs, t, ht, q⟩
  · rintro ⟨s, hs, t, ht, q⟩
    exact ⟨t, List.mem_flatMap.mpr ⟨s, hs, ht⟩, q⟩
theorem in_min (l m : Option Int) (n : Int) : (∀ e, minO l m = some e → n ≤ e) ↔ (∀ e, l = some e → n ≤ e) ∧ ∀ e, m = some e → n ≤ e := by
  cases l with
  | none => simp [minO]
  | some l =>
    cases m with
    | none => simp [minO]
    | some m =>
      simp only [minO, Option.some.injEq, forall_eq']
      split <;> omega
theorem held_cut2 (s t : Sh) (n : Int) : held (cut2 s t) n ↔ inS s n ∧ inS t n := by
  have key : inS (maxI s.1 t.1, minO s.2 t.2) n ↔ inS s n ∧ inS t n := by
    unfold inS
    dsimp only
    rw [in_min]
    unfold maxI
    constructor
    · rintro ⟨h, h1, h2⟩
      exact ⟨⟨by split at h <;> omega, h1⟩, by split at h <;> omega, h2⟩
    · rintro ⟨⟨h1, h2⟩, h3, h4⟩
      exact ⟨by split <;> omega, h2, h4⟩
  unfold cut2
  split
  · rw [held_cons, key]
    simp [held_nil]
  · rename_i hn
    constructor
    · intro h
      exact absurd h (held_nil n)
    · intro h
      have q := key.mpr h
      refine absurd ?_ hn
      unfold endOk
      split
      · rfl
      · rename_i e he
        exact decide_eq_true (Int.le_trans q.1 (q.2 e he))
theorem held_common (r r' : List Sh) (n : Int) : held (commonR r r') n ↔ held r n ∧ held r' n := by
  unfold commonR
  rw [held_flat]
  constructor
  · rintro ⟨s, hs, h⟩
    obtain ⟨t, ht, q⟩ := (held_flat _ _ _).mp h
    obtain ⟨q1, q2⟩ := (held_cut2 s t n).mp q
    exact ⟨⟨s, hs, q1⟩, t, ht, q2⟩
  · rintro ⟨⟨s, hs, q1⟩, t, ht, q2⟩
    exact ⟨s, hs, (held_flat _ _ _).mpr ⟨t, ht, (held_cut2 s t n).mpr ⟨q1, q2⟩⟩⟩
def endsBy (x : List Sh) (l : Int) : Prop := ∀ s ∈ x, ∃ e, s.2 = some e ∧ e ≤ l
theorem form_app : ∀ {x y : List Sh} {b l : Int}, Form b x → endsBy x l → Form (l + 2) y → b ≤ l + 2 → Form b (x ++ y)
  | [], y, b, l, _, _, h, q => h.weak q
  | (f, none) :: x, y, b, l, _, h, _, _ => by
    obtain ⟨e, z, _⟩ := h _ List.mem_cons_self
    cases z
  | (f, some m) :: x, y, b, l, h, k, hy, q => by
    obtain ⟨h1, h2, h3⟩ := h
    obtain ⟨e, z, hz⟩ := k _ List.mem_cons_self
    cases z
    exact ⟨h1, h2, form_app h3 (fun s hs => k s (List.mem_cons_of_mem _ hs)) hy (by omega)⟩
theorem maxI_ge (f g : Int) : f ≤ maxI f g ∧ g ≤ maxI f g := by
  unfold maxI
  split <;> omega
theorem form_one {f : Int} {lo : Option Int} : ∀ {r : List Sh} {b c : Int}, Form c r → b ≤ maxI f c → Form b (r.flatMap fun t => cut2 (f, lo) t)
  | [], _, _, _, _ => trivial
  | (g, none) :: r, b, c, h, q => by
    obtain ⟨h1, rfl⟩ := h
    have m := maxI_ge f g
    have hb : b ≤ maxI f g := by
      unfold maxI at *
      split at q <;> split <;> omega
    rw [List.flatMap_cons, List.flatMap_nil, List.append_nil]
    unfold cut2
    dsimp only
    split
    · rename_i ok
      cases lo with
      | none => exact ⟨hb, rfl⟩
      | some l => exact ⟨hb, of_decide_eq_true ok, trivial⟩
    · trivial
  | (g, some e) :: r, b, c, h, q => by
    obtain ⟨h1, h2, h3⟩ := h
    have m := maxI_ge f g
    have hb : b ≤ maxI f g := by
      unfold maxI at *
      split at q <;> split <;> omega
    rw [List.flatMap_cons]
    unfold cut2
    dsimp only
    split
    · rename_i ok
      obtain ⟨d, hd, hde⟩ : ∃ d, minO lo (some e) = some d ∧ d ≤ e := by
        cases lo with
        | none => exact ⟨e, rfl, Int.le_refl _⟩
        | some l =>
          refine ⟨_, rfl, ?_⟩
          split <;> omega
      rw [hd] at ok ⊢
      exact ⟨hb, of_decide_eq_true ok, form_one h3 (by have := (maxI_ge f (e + 2)).2; omega)⟩
    · refine form_one h3 ?_
      unfold maxI at *
      split at q <;> split <;> omega
theorem ends_one {f l : Int} (r : List Sh) : endsBy (r.flatMap fun t => cut2 (f, some l) t) l := fun s hs => by
  obtain ⟨t, _, ht⟩ := List.mem_flatMap.mp hs
  unfold cut2 at ht
  split at ht
  · rw [List.mem_singleton] at ht
    subst ht
    dsimp only
    cases t.2 with
    | none => exact ⟨l, rfl, Int.le_refl _⟩
    | some e =>
      refine ⟨_, rfl, ?_⟩
      split <;> omega
  · cases ht
theorem form_common : ∀ {r r' : List Sh} {b c : Int}, Form b r → Form c r' → Form b (commonR r r')
  | [], _, _, _, _, _ => trivial
  | (f, none) :: r, r', b, c, h, h' => by
    obtain ⟨h1, rfl⟩ := h
    unfold commonR
    rw [List.flatMap_cons, List.flatMap_nil, List.append_nil]
    exact form_one h' (by have := (maxI_ge f c).1; omega)
  | (f, some l) :: r, r', b, c, h, h' => by
    obtain ⟨h1, h2, h3⟩ := h
    have ih := form_common h3 h'
    unfold commonR at *
    rw [List.flatMap_cons]
    exact form_app (form_one h' (by have := (maxI_ge f c).1; omega)) (ends_one r') ih (by omega)
end RL

namespace RL
/-! ### sets of numbers by their rows -/
def inb (s : Sh) (n : Int) : Bool := decide (s.1 ≤ n) && endOk n s.2
def heldb (r : List Sh) (n : Int) : Bool := r.any fun s => inb s n
theorem inb_iff (s : Sh) (n : Int) : inb s n = true ↔ inS s n := by
  obtain ⟨f, l⟩ := s
  unfold inb inS
  rw [Bool.and_eq_true, decide_eq_true_iff]
  refine and_congr Iff.rfl ?_
  cases l with
  | none =>
    refine ⟨fun _ l e => ?_, fun _ => rfl⟩
    cases e
  | some l =>
    refine ⟨fun h k e => ?_, fun h => decide_eq_true (h l rfl)⟩
    cases e
    exact of_decide_eq_true h
theorem heldb_iff (r : List Sh) (n : Int) : heldb r n = true ↔ held r n := by
  unfold heldb held
  rw [List.any_eq_true]
  exact ⟨fun ⟨s, h, e⟩ => ⟨s, h, (inb_iff s n).mp e⟩, fun ⟨s, h, e⟩ => ⟨s, h, (inb_iff s n).mpr e⟩⟩
theorem bool_eq {a b : Bool} (h : a = true ↔ b = true) : a = b := Bool.eq_iff_iff.mpr h
theorem heldb_common (r r' : List Sh) (n : Int) : heldb (commonR r r') n = (heldb r n && heldb r' n) := bool_eq (by
  rw [Bool.and_eq_true, heldb_iff, heldb_iff, heldb_iff]
  exact held_common r r' n)
theorem heldb_gaps {r : List Sh} (h : Form 0 r) {n : Int} (n0 : 0 ≤ n) : heldb (gapsF 0 r) n = !heldb r n := bool_eq (by
  rw [heldb_iff, held_gaps h n]
  constructor
  · rintro ⟨_, z⟩
    cases q : heldb r n with
    | true => exact absurd ((heldb_iff r n).mp q) z
    | false => rfl
  · intro z
    refine ⟨n0, fun y => ?_⟩
    rw [(heldb_iff r n).mpr y] at z
    cases z)
theorem gaps_gaps {r : List Sh} (h : Form 0 r) : gapsF 0 (gapsF 0 r) = r := by
  refine canon (form_gaps (form_gaps h)) h fun n => ?_
  rw [held_gaps (form_gaps h), held_gaps h]
  constructor
  · rintro ⟨n0, z⟩
    exact Classical.byContradiction fun y => z ⟨n0, y⟩
  · intro y
    exact ⟨h.ge y, fun z => z.2 y⟩
def orR (r r' : List Sh) : List Sh := gapsF 0 (commonR (gapsF 0 r) (gapsF 0 r'))
theorem form_or {r r' : List Sh} (h : Form 0 r) (h' : Form 0 r') : Form 0 (orR r r') := form_gaps (form_common (form_gaps h) (form_gaps h'))
theorem held_or {r r' : List Sh} (h : Form 0 r) (h' : Form 0 r') (n : Int) : held (orR r r') n ↔ held r n ∨ held r' n := by
  unfold orR
  rw [held_gaps (form_common (form_gaps h) (form_gaps h')), held_common, held_gaps h, held_gaps h']
  constructor
  · rintro ⟨n0, z⟩
    rcases Classical.em (held r n) with y | y
    · exact .inl y
    · rcases Classical.em (held r' n) with x | x
      · exact .inr x
      · exact absurd ⟨⟨n0, y⟩, n0, x⟩ z
  · rintro (y | y)
    · exact ⟨h.ge y, fun z => z.1.2 y⟩
    · exact ⟨h'.ge y, fun z => z.2.2 y⟩
theorem heldb_or {r r' : List Sh} (h : Form 0 r) (h' : Form 0 r') (n : Int) : heldb (orR r r') n = (heldb r n || heldb r' n) := bool_eq (by
  rw [Bool.or_eq_true, heldb_iff, heldb_iff, heldb_iff]
  exact held_or h h' n)
theorem or_comm' {r r' : List Sh} (h : Form 0 r) (h' : Form 0 r') : orR r' r = orR r r' := canon (form_or h' h) (form_or h h') fun n => by
  rw [held_or h' h, held_or h h']
  exact Or.comm
theorem and_self' {r : List Sh} (h : Form 0 r) : commonR r r = r := canon (form_common h h) h fun n => by
  rw [held_common]
  exact and_self_iff
theorem sub_self' {r : List Sh} (h : Form 0 r) : commonR r (gapsF 0 r) = [] := canon (form_common h (form_gaps h)) (b := 0) (by unfold Form; trivial) fun n => by
  rw [held_common, held_gaps h]
  exact ⟨fun z => absurd z.1 z.2.2, fun z => absurd z (held_nil n)⟩
theorem or_inv' {r : List Sh} (h : Form 0 r) : orR r (gapsF 0 r) = [(0, none)] := canon (form_or h (form_gaps h)) (b := 0) (by unfold Form; exact ⟨Int.le_refl _, rfl⟩) fun n => by
  rw [held_or h (form_gaps h), held_gaps h, held_cons, inS_none]
  constructor
  · rintro (z | z)
    · exact .inl (h.ge z)
    · exact .inl z.1
  · rintro (z | z)
    · rcases Classical.em (held r n) with y | y
      · exact .inl y
      · exact .inr ⟨z, y⟩
    · exact absurd z (held_nil n)
theorem gaps_len : ∀ (r : List Sh) (b : Int), (gapsF b r).length ≤ r.length + 1
  | [], b => Nat.le_refl _
  | (f, none) :: r, b => by
    unfold gapsF
    split <;> simp
  | (f, some l) :: r, b => by
    have := gaps_len r (l + 1)
    unfold gapsF
    split <;> simp <;> omega
theorem cut2_len (s t : Sh) : (cut2 s t).length ≤ 1 := by
  unfold cut2
  split <;> simp
theorem flat_len {α β : Type} (f : α → List β) (k : Nat) : ∀ l : List α, (∀ x ∈ l, (f x).length ≤ k) → (l.flatMap f).length ≤ l.length * k
  | [], _ => by simp
  | x :: l, h => by
    have h1 := h x List.mem_cons_self
    have h2 := flat_len f k l fun y hy => h y (List.mem_cons_of_mem _ hy)
    rw [List.flatMap_cons, List.length_append, List.length_cons, Nat.succ_mul]
    omega
theorem common_len (r r' : List Sh) : (commonR r r').length ≤ r.length * r'.length := by
  unfold commonR
  refine flat_len _ r'.length r fun s _ => ?_
  have := flat_len (cut2 s) 1 r' fun t _ => cut2_len s t
  rw [Nat.mul_one] at this
  exact this
/-- the row at the i-th stretch, and what is left of it -/
def lowEnd (b : Option Int) (r : List Sh) : Prop := match b with | none => r = [] | some b => Form b r
theorem Form.step {b f : Int} {l : Option Int} {r : List Sh} (h : Form b ((f, l) :: r)) : b ≤ f ∧ (∀ k, l = some k → f ≤ k) ∧ lowEnd (l.map (· + 2)) r := by
  cases l with
  | none =>
    unfold Form at h
    refine ⟨h.1, fun k e => ?_, h.2⟩
    cases e
  | some l =>
    unfold Form at h
    refine ⟨h.1, fun k e => ?_, h.2.2⟩
    cases e
    exact h.2.1
end RL

set_option maxHeartbeats 1000000
namespace RL
open PySem L2 PySem.Spec PyProof.Rows
structure TxtN (K : PySem.W.Frag) (mg : Str → Option Value) (C : Addr) : Prop extends Txt K mg where
  any : mg "any" = none
  mgC : mg "Numbers" = some (.ref C)
  cl : Cls K C
  nHeld : NoAttr K C "held"
/-! ### stretches in the heap -/
def eV : Option Int → V
  | none => .non
  | some l => .int l
def ShAt (H : Hp) (v : V) (s : Sh) : Prop := ∃ t, v = .ref t ∧ H t = some (.tup [.int s.1, eV s.2])
theorem ShAt.same {H H' : Hp} {v : V} {s : Sh} (h : ShAt H v s) (e : Same H H') : ShAt H' v s := by
  obtain ⟨t, q, h⟩ := h
  exact ⟨t, q, e _ _ h⟩
theorem ShAt.but {H H' : Hp} {x : Addr} {v : V} {s : Sh} (h : ShAt H v s) (e : But x H H') (hx : ∀ xs, H x ≠ some (.tup xs)) : ShAt H' v s := by
  obtain ⟨t, q, h⟩ := h
  exact ⟨t, q, e _ _ (fun z => hx _ (z ▸ h)) h⟩
inductive Shs (H : Hp) : List V → List Sh → Prop where
  | nil : Shs H [] []
  | cons {v : V} {s : Sh} {vs : List V} {r : List Sh} : ShAt H v s → Shs H vs r → Shs H (v :: vs) (s :: r)
theorem Shs.same {H H' : Hp} {vs : List V} {r : List Sh} (h : Shs H vs r) (s : Same H H') : Shs H' vs r := by
  induction h with
  | nil => exact .nil
  | cons a _ ih => exact .cons (a.same s) ih
theorem Shs.but {H H' : Hp} {x : Addr} {vs : List V} {r : List Sh} (h : Shs H vs r) (s : But x H H') (hx : ∀ xs, H x ≠ some (.tup xs)) : Shs H' vs r := by
  induction h with
  | nil => exact .nil
  | cons a _ ih => exact .cons (a.but s hx) ih
theorem Shs.app {H : Hp} {vs vs' : List V} {r r' : List Sh} (h : Shs H vs r) (h' : Shs H vs' r') : Shs H (vs ++ vs') (r ++ r') := by
  induction h with
  | nil => exact h'
  | cons a _ ih => exact .cons a ih
theorem Shs.length {H : Hp} {vs : List V} {r : List Sh} (h : Shs H vs r) : vs.length = r.length := by
  induction h with
  | nil => rfl
  | cons _ _ ih => simp [ih]
theorem Shs.at_ {H : Hp} {vs : List V} {r : List Sh} (h : Shs H vs r) : ∀ {i : Nat} {v : V}, vs[i]? = some v → ∃ s, r[i]? = some s ∧ ShAt H v s := by
  induction h with
  | nil => exact fun z => by simp at z
  | cons a _ ih =>
    intro i v hv
    cases i with
    | zero =>
      cases hv
      exact ⟨_, rfl, a⟩
    | succ i => exact ih hv
def ShT (H : Hp) (a : Addr) (r : List Sh) : Prop := ∃ ws, H a = some (.tup ws) ∧ Shs H ws r
def ShL (H : Hp) (a : Addr) (r : List Sh) : Prop := ∃ ws, H a = some (.lst ws) ∧ Shs H ws r
theorem ShT.same {H H' : Hp} {a : Addr} {r : List Sh} (h : ShT H a r) (s : Same H H') : ShT H' a r := by
  obtain ⟨ws, h1, h2⟩ := h
  exact ⟨ws, s _ _ h1, h2.same s⟩
theorem ShL.same {H H' : Hp} {a : Addr} {r : List Sh} (h : ShL H a r) (s : Same H H') : ShL H' a r := by
  obtain ⟨ws, h1, h2⟩ := h
  exact ⟨ws, s _ _ h1, h2.same s⟩
theorem ShT.but {H H' : Hp} {a x : Addr} {r : List Sh} (h : ShT H a r) (s : But x H H') (hx : ∀ xs, H x ≠ some (.tup xs)) : ShT H' a r := by
  obtain ⟨ws, h1, h2⟩ := h
  exact ⟨ws, s _ _ (fun z => hx _ (z ▸ h1)) h1, h2.but s hx⟩
def NumAt (C : Addr) (H : Hp) (x : Addr) (r : List Sh) : Prop := ∃ dx q, H x = some (.ins C dx [("held", .ref q)]) ∧ ShT H q r
theorem NumAt.same {C : Addr} {H H' : Hp} {x : Addr} {r : List Sh} (h : NumAt C H x r) (s : Same H H') : NumAt C H' x r := by
  obtain ⟨dx, q, h1, h2⟩ := h
  exact ⟨dx, q, s _ _ h1, h2.same s⟩
theorem NumAt.but {C : Addr} {H H' : Hp} {x c : Addr} {r : List Sh} (h : NumAt C H x r) (hc : CupAt c H) (s : But c H H') : NumAt C H' x r := by
  obtain ⟨dx, q, h1, h2⟩ := h
  obtain ⟨u, v, hc, _⟩ := hc
  exact ⟨dx, q, s _ _ (ne_of h1 hc (by intro z; cases z)) h1, h2.but s (fun xs z => by rw [hc] at z; cases z)⟩
theorem lkH (q : Addr) : ([("held", .ref q)] : List (Str × V)).lookup ("held" : Str) = some (.ref q) := by simp [List.lookup]
/-! ### as data -/
def eD : Option Int → PyData
  | none => .none
  | some l => .int l
def shD (s : Sh) : PyData := .tuple [.int s.1, eD s.2]
def rowD (r : List Sh) : List PyData := r.map shD
theorem dp_e {K : PySem.W.Frag} {H : Hp} : ∀ o : Option Int, Dp K H (eV o) (eD o)
  | none => .non
  | some l => .int l
theorem dp_shT {K : PySem.W.Frag} {H : Hp} {a : Addr} {r : List Sh} (h : ShT H a r) : Dp K H (.ref a) (.tuple (rowD r)) := by
  obtain ⟨ws, ha, hw⟩ := h
  refine .tup (SqT.of ha) ?_
  clear ha
  induction hw with
  | nil => exact .nil
  | cons a _ ih =>
    obtain ⟨t, rfl, ht⟩ := a
    exact .cons (.tup (SqT.of ht) (.cons (.int _) (.cons (dp_e _) .nil))) ih
theorem dp_shL {K : PySem.W.Frag} {H : Hp} {a : Addr} {r : List Sh} (h : ShL H a r) : Dp K H (.ref a) (.list (rowD r)) := by
  obtain ⟨ws, ha, hw⟩ := h
  refine .lst (SqL.of ha) ?_
  clear ha
  induction hw with
  | nil => exact .nil
  | cons a _ ih =>
    obtain ⟨t, rfl, ht⟩ := a
    exact .cons (.tup (SqT.of ht) (.cons (.int _) (.cons (dp_e _) .nil))) ih
def gtail (la : Option Int) (r : List Sh) : List Sh := match la with | none => [] | some l => gapsF (l + 1) r
theorem gaps_cons (b f : Int) (l : Option Int) (r : List Sh) : gapsF b ((f, l) :: r) = (if b < f then [(b, some (f - 1))] else []) ++ gtail l r := by cases l <;> rfl
theorem eqv_e (a b : Option Int) : PyData.eqv (eD a) (eD b) = decide (a = b) := by
  rw [Bool.eq_iff_iff]
  cases a <;> cases b <;> simp [eD, PyData.eqv]
theorem eqv_sh (s t : Sh) : PyData.eqv (shD s) (shD t) = decide (s = t) := by
  rw [Bool.eq_iff_iff]
  simp [shD, PyData.eqv, PyData.eqvAll, eqv_e, Prod.ext_iff]
theorem eqv_rows : ∀ r r' : List Sh, PyData.eqvAll (rowD r) (rowD r') = decide (r = r')
  | [], [] => by simp [rowD, PyData.eqvAll]
  | [], s :: r => by simp [rowD, PyData.eqvAll]
  | s :: r, [] => by simp [rowD, PyData.eqvAll]
  | s :: r, t :: r' => by
    have ih := eqv_rows r r'
    rw [Bool.eq_iff_iff]
    simp only [rowD, List.map_cons, PyData.eqvAll, Bool.and_eq_true, eqv_sh, decide_eq_true_iff, List.cons.injEq]
    unfold rowD at ih
    rw [ih, decide_eq_true_iff]
theorem lay_rows : ∀ r : List Sh, PyData.canLayAll0 (rowD r) = true
  | [] => rfl
  | (f, none) :: r => by
    have := lay_rows r
    unfold rowD at this
    simp [rowD, shD, eD, PyData.canLayAll0, PyData.canLay0, this]
  | (f, some l) :: r => by
    have := lay_rows r
    unfold rowD at this
    simp [rowD, shD, eD, PyData.canLayAll0, PyData.canLay0, this]
theorem depth_rows : ∀ r : List Sh, PyData.depthAll (rowD r) ≤ 1
  | [] => by simp [rowD, PyData.depthAll]
  | (f, none) :: r => by
    have := depth_rows r
    unfold rowD at this
    simp [rowD, shD, eD, PyData.depthAll, PyData.depth]
    omega
  | (f, some l) :: r => by
    have := depth_rows r
    unfold rowD at this
    simp [rowD, shD, eD, PyData.depthAll, PyData.depth]
    omega
theorem sh_rowT (r : List Sh) : SeqAt.shaped (.tuple (rowD r)) = true := by
  have h1 := lay_rows r
  have h2 := depth_rows r
  unfold SeqAt.shaped
  simp [PyData.canLay0, PyData.depth, h1]
  omega
theorem sh_rowL (r : List Sh) : SeqAt.shaped (.list (rowD r)) = true := by
  have h1 := lay_rows r
  have h2 := depth_rows r
  unfold SeqAt.shaped
  simp [PyData.canLay0, PyData.depth, h1]
  omega
/-! ### promises -/
def spIsInt : Sp := fun vs H Q _ => ∃ i, vs = [.int i] ∧ Q (.bl true) H
def spIsSt : Sp := fun vs H Q _ => ∃ (v : V) (b : Int) (s : Sh), vs = [v, .int b] ∧ ShAt H v s ∧ b ≤ s.1 ∧ (∀ l, s.2 = some l → s.1 ≤ l) ∧ Q (.bl true) H
def spLeast : Sp := fun vs H Q _ => ∃ (v : V) (s : Sh), vs = [v] ∧ ShAt H v s ∧ Q (eV (s.2.map (· + 2))) H
def spLies : Sp := fun vs H Q _ => ∃ (n : Int) (v : V) (s : Sh), vs = [.int n, v] ∧ ShAt H v s ∧ Q (.bl (inb s n)) H
def spEarl : Sp := fun vs H Q _ => ∃ a b : Option Int, vs = [eV a, eV b] ∧ Q (eV (minO a b)) H
def spCommon : Sp := fun vs H Q _ => ∃ (a b : Addr) (r r' : List Sh), vs = [.ref a, .ref b] ∧ ShT H a r ∧ ShT H b r' ∧ r.length * r'.length ≤ 900 ∧ ∀ H' z, Same H H' → H z = none → ShT H' z (commonR r r') → Q (.ref z) H'
def spGaps : Sp := fun vs H Q _ => ∃ (a : Addr) (r : List Sh), vs = [.ref a] ∧ ShT H a r ∧ r.length ≤ 900 ∧ ∀ H' z, Same H H' → H z = none → ShT H' z (gapsF 0 r) → Q (.ref z) H'
def spNI (C : Addr) : Sp := fun vs H Q _ => ∃ (x dx p : Addr) (r : List Sh), vs = [.ref x, .ref p] ∧ H x = some (.ins C dx []) ∧ ShT H p r ∧ Form 0 r ∧ ∀ H', But x H H' → NumAt C H' x r → Q .non H'
structure NumD (P : Program) (w : World) (K : PySem.W.Frag) (mg : Str → Option Value) (base : Heap) (C f : Addr) : Prop where
  m : Mk K C f
  fn : FnR P w K mg base CX0 3 f (star1 (spNI C))
section
variable {P : Program} {w : World} {K : PySem.W.Frag} {mg : Str → Option Value} {base : Heap} {C fN : Addr}
abbrev s_is_integer : Stmt := top 2
theorem sc_is_integer : FnScope ["value"] ["value"] (defScope s_is_integer) := ⟨rfl, rfl, rfl, by decide +kernel, rfl, by decide +kernel, by decide +kernel⟩

theorem ok_isint {f : Addr} {fd : FuncData} (F : Fun K "is_integer" "is_integer" s_is_integer f fd) (T : Txt K mg) : FnOk P w K mg base CX0 1 f fd ["value"] spIsInt := by
  refine F.ok sc_is_integer (fun vs H Q E h => ?_) (fun cdv A outer s H vs Q E hr h => ?_)
  · obtain ⟨i, rfl, _⟩ := h
    rfl
  · obtain ⟨i, rfl, k⟩ := h
    refine ⟨_, (pss_one (ps_ret (pe_and (pe_callB call_isi (by rfl) T.isinstance (by decide +kernel) (pa_cons (pv 0) (pa_cons (pe_bltn (v := .ty "int") (by rfl) T.int_ (by decide +kernel) rfl) pa_nil))) (pe_one (pe_not (pe_callB call_isi (by rfl) T.isinstance (by decide +kernel) (pa_cons (pv 0) (pa_cons (pe_bltn (v := .ty "bool") (by rfl) T.bool_ (by decide +kernel) rfl) pa_nil)))))))), ?_⟩
    refine ⟨_, rfl, _, _, _, _, true, rfl, .ty _, .base (.int i), kit_ty (by decide +kernel), true, rfl, iteT ?_⟩
    exact ⟨_, rfl, _, _, _, _, false, rfl, .ty _, .base (.int i), kit_ty (by decide +kernel), false, rfl, k⟩
abbrev s_is_stretch : Stmt := top 11
theorem sc_is_stretch : FnScope ["value", "least", "first", "last"] ["value", "least"] (defScope s_is_stretch) := ⟨rfl, rfl, rfl, by decide +kernel, rfl, by decide +kernel, by decide +kernel⟩

theorem ok_isst {f : Addr} {fd : FuncData} (F : Fun K "is_stretch" "is_stretch" s_is_stretch f fd) (T : Txt K mg) (D_is_integer : Df P w K mg base 1 "is_integer" ["value"] spIsInt) : FnOk P w K mg base CX0 2 f fd ["value", "least"] spIsSt := by
  refine F.ok sc_is_stretch (fun vs H Q E h => ?_) (fun cdv A outer s H vs Q E hr h => ?_)
  · obtain ⟨v, b, s, rfl, _⟩ := h
    rfl
  · obtain ⟨v, b, ⟨fi, la⟩, rfl, ⟨t, rfl, ht⟩, h1, h2, k⟩ := h
    refine ⟨_, (pss_cons (ps_if (PW.pt (pw_or (pt_not (pt_val (pe_callB call_isi (by rfl) T.isinstance (by decide +kernel) (pa_cons (pv 0) (pa_cons (pe_bltn (v := .ty "tuple") (by rfl) T.tuple_ (by decide +kernel) rfl) pa_nil))))) (pw_or1 (pt_cmpR op_ne (pe_callB call_len_seq (by rfl) T.len (by decide +kernel) (pa_cons (pv 0) pa_nil)) pe_int (nomark _))))) (pss_one (ps_ret pe_bl)) pss_nil)
      (pss_cons (ps_asg (pv 0) (pg_tup rfl (pgs_cons (pg_name (i := 2) sc_is_stretch.nd rfl (.inl rfl)) (pgs_cons (pg_name (i := 3) sc_is_stretch.nd rfl (.inl rfl)) pgs_nil))))
      (pss_cons (ps_if (PW.pt (pw_or (pt_not (pt_val (pe_df D_is_integer (hr.mono (by decide)) (by rfl) (pa_cons (pv 2) pa_nil)))) (pw_or1 (pt_cmpR op_lt (pv 2) (pv 1) (nomark _))))) (pss_one (ps_ret pe_bl)) pss_nil)
      (pss_one (ps_ret (pe_or (pe_cmpR op_isN (pv 3) pe_non (nomark _)) (pe_one (pe_and (pe_df D_is_integer (hr.mono (by decide)) (by rfl) (pa_cons (pv 3) pa_nil)) (pe_one (pe_cmpR op_le (pv 2) (pv 3) (nomark _))))))))))), ?_⟩
    refine ⟨_, rfl, _, _, _, _, true, rfl, .ty _, .base (.tup ht), kit_ty (by decide +kernel), true, rfl, iteF ?_⟩
    refine ⟨_, rfl, t, _, rfl, .inr (SqT.of ht), rfl, _, rfl, ite2 (fun e => absurd e (ne_selfV (.int 2))) (fun _ => ?_)⟩
    refine ⟨_, rfl, t, _, rfl, SqT.of ht, rfl, _, _, rfl, _, _, rfl, rfl, ?_⟩
    refine ⟨_, rfl, fi, rfl, true, rfl, iteF ?_⟩
    refine ⟨_, rfl, _, rfl, _, _, rfl, rfl, _, rfl, ite2 (fun e => ?_) (fun _ => ?_)⟩
    · have : fi < b := of_decide_eq_true e
      dsimp at h1
      omega
    cases la with
    | none => exact ⟨_, rfl, rfl, true, rfl, iteT k⟩
    | some l =>
      refine ⟨_, rfl, rfl, false, rfl, iteF ?_⟩
      refine ⟨_, rfl, l, rfl, true, rfl, iteT ?_⟩
      refine ⟨_, rfl, _, rfl, _, _, rfl, rfl, ?_⟩
      have := h2 l rfl
      show Q (.bl (decide (fi ≤ l))) H
      rw [decide_eq_true this]
      exact k
abbrev s_least_first_behind : Stmt := top 12
theorem sc_least_first_behind : FnScope ["stretch", "last"] ["stretch"] (defScope s_least_first_behind) := ⟨rfl, rfl, rfl, by decide +kernel, rfl, by decide +kernel, by decide +kernel⟩

theorem ok_least {f : Addr} {fd : FuncData} (F : Fun K "least_first_behind" "least_first_behind" s_least_first_behind f fd) : FnOk P w K mg base CX0 1 f fd ["stretch"] spLeast := by
  refine F.ok sc_least_first_behind (fun vs H Q E h => ?_) (fun cdv A outer s H vs Q E hr h => ?_)
  · obtain ⟨v, s, rfl, _⟩ := h
    rfl
  · obtain ⟨v, ⟨fi, la⟩, rfl, ⟨t, rfl, ht⟩, k⟩ := h
    refine ⟨_, (pss_cons (ps_set (i := 1) sc_least_first_behind.nd rfl (.inl rfl) (pe_ix ix_tup (pv 0) pe_int (fun _ _ => rfl)))
      (pss_cons (ps_if (pt_cmpR op_isN (pv 1) pe_non (nomark _)) (pss_one (ps_ret pe_non)) pss_nil)
      (pss_one (ps_ret (pe_op op_add (pv 1) pe_int))))), ?_⟩
    refine ⟨_, rfl, t, _, _, _, rfl, rfl, SqT.of ht, atI_nat (j := 1) rfl, ?_⟩
    cases la with
    | none => exact ⟨_, rfl, rfl, true, rfl, iteT k⟩
    | some l => exact ⟨_, rfl, rfl, false, rfl, iteF ⟨_, rfl, _, _, rfl, rfl, k⟩⟩
abbrev s_lies_within : Stmt := top 13
theorem sc_lies_within : FnScope ["number", "stretch", "first", "last"] ["number", "stretch"] (defScope s_lies_within) := ⟨rfl, rfl, rfl, by decide +kernel, rfl, by decide +kernel, by decide +kernel⟩

theorem ok_lies {f : Addr} {fd : FuncData} (F : Fun K "lies_within" "lies_within" s_lies_within f fd) : FnOk P w K mg base CX0 1 f fd ["number", "stretch"] spLies := by
  refine F.ok sc_lies_within (fun vs H Q E h => ?_) (fun cdv A outer s H vs Q E hr h => ?_)
  · obtain ⟨n, v, s, rfl, _⟩ := h
    rfl
  · obtain ⟨n, v, ⟨fi, la⟩, rfl, ⟨t, rfl, ht⟩, k⟩ := h
    refine ⟨_, (pss_cons (ps_asg (pv 1) (pg_tup rfl (pgs_cons (pg_name (i := 2) sc_lies_within.nd rfl (.inl rfl)) (pgs_cons (pg_name (i := 3) sc_lies_within.nd rfl (.inl rfl)) pgs_nil))))
      (pss_one (ps_ret (pe_and (pe_cmpR op_le (pv 2) (pv 0) (nomark _)) (pe_one (pe_or (pe_cmpR op_isN (pv 3) pe_non (nomark _)) (pe_one (pe_cmpR op_le (pv 0) (pv 3) (nomark _))))))))), ?_⟩
    refine ⟨_, rfl, t, _, rfl, SqT.of ht, rfl, _, _, rfl, _, _, rfl, rfl, ?_⟩
    unfold inb at k
    dsimp at k
    refine ⟨_, rfl, _, rfl, _, _, rfl, rfl, _, rfl, ite2 (fun e => ?_) (fun e => ?_)⟩
    · have e0 : decide (fi ≤ n) = true := e
      rw [e0] at k
      cases la with
      | none => exact ⟨_, rfl, rfl, true, rfl, iteT k⟩
      | some l =>
        refine ⟨_, rfl, rfl, false, rfl, iteF ⟨_, rfl, _, rfl, _, _, rfl, rfl, ?_⟩⟩
        exact k
    · have e0 : decide (fi ≤ n) = false := by
        cases q : decide (fi ≤ n) with
        | true => exact absurd q e
        | false => rfl
      rw [e0] at k
      exact k
abbrev s_earlier_end : Stmt := top 15
theorem sc_earlier_end : FnScope ["last", "other_last"] ["last", "other_last"] (defScope s_earlier_end) := ⟨rfl, rfl, rfl, by decide +kernel, rfl, by decide +kernel, by decide +kernel⟩

theorem ok_earl {f : Addr} {fd : FuncData} (F : Fun K "earlier_end" "earlier_end" s_earlier_end f fd) (T : Txt K mg) : FnOk P w K mg base CX0 1 f fd ["last", "other_last"] spEarl := by
  refine F.ok sc_earlier_end (fun vs H Q E h => ?_) (fun cdv A outer s H vs Q E hr h => ?_)
  · obtain ⟨a, b, rfl, _⟩ := h
    rfl
  · obtain ⟨a, b, rfl, k⟩ := h
    refine ⟨_, (pss_cons (ps_if (pt_cmpR op_isN (pv 0) pe_non (nomark _)) (pss_one (ps_ret (pv 1))) pss_nil)
      (pss_cons (ps_if (pt_cmpR op_isN (pv 1) pe_non (nomark _)) (pss_one (ps_ret (pv 0))) pss_nil)
      (pss_one (ps_ret (pe_callB (call_min2 rfl) (by rfl) T.min (by decide +kernel) (pa_cons (pv 0) (pa_cons (pv 1) pa_nil))))))), ?_⟩
    cases a with
    | none => exact ⟨_, rfl, rfl, true, rfl, iteT ⟨_, rfl, k⟩⟩
    | some l =>
      refine ⟨_, rfl, rfl, false, rfl, iteF ?_⟩
      cases b with
      | none => exact ⟨_, rfl, rfl, true, rfl, iteT ⟨_, rfl, k⟩⟩
      | some m =>
        refine ⟨_, rfl, rfl, false, rfl, iteF ⟨_, rfl, _, rfl, _, _, rfl, ?_⟩⟩
        have e : (if m < l then m else l) = (if l ≤ m then l else m) := by
          split <;> split <;> omega
        rw [e]
        exact k
abbrev s_common : Stmt := top 14
theorem sc_common : FnScope ["row", "other_row", "found", "first", "last", "other_first", "other_last", "begin", "end"] ["row", "other_row"] (defScope s_common) := ⟨rfl, rfl, rfl, by decide +kernel, rfl, by decide +kernel, by decide +kernel⟩

theorem ok_common {f : Addr} {fd : FuncData} (F : Fun K "common" "common" s_common f fd) (T : Txt K mg) (D_earlier_end : Df P w K mg base 1 "earlier_end" ["last", "other_last"] spEarl) : FnOk P w K mg base CX0 2 f fd ["row", "other_row"] spCommon := by
  refine F.ok sc_common (fun vs H Q E h => ?_) (fun cdv A outer s H vs Q E hr h => ?_)
  · obtain ⟨a, b, r, r', rfl, _⟩ := h
    rfl
  · obtain ⟨a, b, r, r', rfl, ⟨ws, ha, hw⟩, ⟨us, hb, hu⟩, len, k⟩ := h
    refine ⟨_, (pss_cons (ps_set (i := 2) sc_common.nd rfl (.inl rfl) (pe_lst pa_nil))
      (pss_cons (ps_for PassesOwn.never rfl (pi_tup (pv 0)) (pg_tup rfl (pgs_cons (pg_name (i := 3) sc_common.nd rfl (.inl rfl)) (pgs_cons (pg_name (i := 4) sc_common.nd rfl (.inl rfl)) pgs_nil))) (pss_one (ps_for PassesOwn.never rfl (pi_tup (pv 1)) (pg_tup rfl (pgs_cons (pg_name (i := 5) sc_common.nd rfl (.inl rfl)) (pgs_cons (pg_name (i := 6) sc_common.nd rfl (.inl rfl)) pgs_nil))) (pss_cons (ps_set (i := 7) sc_common.nd rfl (.inl rfl) (pe_callB (call_max2 rfl) (by rfl) T.max (by decide +kernel) (pa_cons (pv 3) (pa_cons (pv 5) pa_nil))))
      (pss_cons (ps_set (i := 8) sc_common.nd rfl (.inl rfl) (pe_df D_earlier_end (hr.mono (by decide)) (by rfl) (pa_cons (pv 4) (pa_cons (pv 6) pa_nil))))
      (pss_one (ps_if (PW.pt (pw_or (pt_cmpR op_isN (pv 8) pe_non (nomark _)) (pw_or1 (pt_cmpR op_le (pv 7) (pv 8) (nomark _))))) (pss_one (ps_expr (pe_bm PySem.F.plainAttrs_list PySem.F.slot_list_append PySem.F.type_list_append mt_append (pv 2) (pa_cons (pe_tup (pa_cons (pv 7) (pa_cons (pv 8) pa_nil))) pa_nil)))) pss_nil)))))))
      (pss_one (ps_ret (pe_callTy call_tuple_of (by rfl) T.tuple_ (by decide +kernel) (pa_cons (pv 2) pa_nil)))))), ?_⟩
    refine ⟨Nat.zero_le _, fun l nl => ?_⟩
    have b0 : But l H (upd H l (.lst [])) := But.upd
    have nla := ne_of_none ha nl
    have nlb := ne_of_none hb nl
    have hl0 : (upd H l (.lst [])) l = some (.lst []) := upd_same
    have notT : ∀ {H' : Hp} {xs : List V}, H' l = some (.lst xs) → ∀ ys, H' l ≠ some (.tup ys) := fun e ys z => by rw [e] at z; cases z
    have but2 : ∀ {H' : Hp} {a' : Addr} {ys : List V}, But l H H' → H a' = some (.tup ys) → H' a' = some (.tup ys) := fun bb e => bb _ _ (ne_of_none e nl) e
    have shs2 : ∀ {H' : Hp} {ys : List V} {rr : List Sh}, But l H H' → Shs H ys rr → Shs H' ys rr := fun bb e => e.but bb (fun xs z => by rw [nl] at z; cases z)
    generalize upd H l (.lst []) = H0 at *
    refine ⟨_, rfl, a, rfl, ⟨_, SqT.of (but2 b0 ha)⟩, ?_⟩
    refine for_tup (K := K) (a := a) (xs := ws) (fun i σ H' => But l H H' ∧ (∃ v1 v2 v3 v4 v5 v6, σ = [some (.ref a), some (.ref b), some (.ref l), v1, v2, v3, v4, v5, v6]) ∧ ∃ vs, H' l = some (.lst vs) ∧ Shs H' vs ((r.take i).flatMap fun s => r'.flatMap fun t => cut2 s t)) ⟨b0, ⟨_, _, _, _, _, _, rfl⟩, [], hl0, .nil⟩ (fun i σ H' _ h => SqT.of (but2 h.1 ha)) ?_ ?_
    · rintro i y σ H1 hy ⟨b1, ⟨v1, v2, v3, v4, v5, v6, rfl⟩, vs1, hl1, hF1⟩
      obtain ⟨⟨fi, la⟩, hs, t, rfl, ht⟩ := hw.at_ hy
      have ht := but2 b1 ht
      refine ⟨t, _, rfl, SqT.of ht, rfl, _, _, rfl, _, _, rfl, rfl, ?_⟩
      have tk : r.take (i + 1) = r.take i ++ [(fi, la)] := by
        rw [List.take_succ, hs]
        rfl
      rw [tk, List.flatMap_append, List.flatMap_singleton]
      have il : i < r.length := (List.getElem?_eq_some_iff.mp hs).1
      refine ⟨_, rfl, b, rfl, ⟨_, SqT.of (but2 b1 hb)⟩, ?_⟩
      refine for_tup (K := K) (a := b) (xs := us) (fun j σ H' => But l H H' ∧ (∃ v3 v4 v5 v6, σ = [some (.ref a), some (.ref b), some (.ref l), some (.int fi), some (eV la), v3, v4, v5, v6]) ∧ ∃ vs, H' l = some (.lst vs) ∧ Shs H' vs (((r.take i).flatMap fun s => r'.flatMap fun t => cut2 s t) ++ (r'.take j).flatMap fun t => cut2 (fi, la) t)) ⟨b1, ⟨_, _, _, _, rfl⟩, vs1, hl1, by rw [List.take_zero, List.flatMap_nil, List.append_nil]; exact hF1⟩ (fun j σ H' _ h => SqT.of (but2 h.1 hb)) ?_ ?_
      · rintro j z σ H2 hz ⟨b2, ⟨v3, v4, v5, v6, rfl⟩, vs2, hl2, hF2⟩
        obtain ⟨⟨gi, ga⟩, hs2, t2, rfl, ht2⟩ := hu.at_ hz
        have ht2 := but2 b2 ht2
        have jl : j < r'.length := (List.getElem?_eq_some_iff.mp hs2).1
        have tk2 : r'.take (j + 1) = r'.take j ++ [(gi, ga)] := by
          rw [List.take_succ, hs2]
          rfl
        have cl : (((r.take i).flatMap fun s => r'.flatMap fun t => cut2 s t) ++ (r'.take j).flatMap fun t => cut2 (fi, la) t).length < r.length * r'.length := by
          have e1 := flat_len (fun s => r'.flatMap fun t => cut2 s t) r'.length (r.take i) fun s _ => by
            have := flat_len (cut2 s) 1 r' fun t _ => cut2_len s t
            rw [Nat.mul_one] at this
            exact this
          have e2 := flat_len (fun t => cut2 (fi, la) t) 1 (r'.take j) fun t _ => cut2_len _ t
          rw [List.length_take, Nat.min_eq_left (by omega)] at e1 e2
          rw [List.length_append]
          have e3 : (i + 1) * r'.length ≤ r.length * r'.length := Nat.mul_le_mul_right _ il
          rw [Nat.succ_mul] at e3
          omega
        refine ⟨t2, _, rfl, SqT.of ht2, rfl, _, _, rfl, _, _, rfl, rfl, ?_⟩
        have em : (if gi > fi then gi else fi) = maxI fi gi := by
          unfold maxI
          split <;> split <;> omega
        refine ⟨_, rfl, _, rfl, _, _, rfl, ?_⟩
        rw [em]
        refine ⟨_, rfl, _, rfl, la, ga, rfl, ?_⟩
        have app : ∀ {Q' : Prop}, (∀ p, H2 p = none → But l H (upd (upd H2 p (.tup [.int (maxI fi gi), eV (minO la ga)])) l (.lst (vs2 ++ [.ref p]))) → ∃ vs, (upd (upd H2 p (.tup [.int (maxI fi gi), eV (minO la ga)])) l (.lst (vs2 ++ [.ref p]))) l = some (.lst vs) ∧ Shs (upd (upd H2 p (.tup [.int (maxI fi gi), eV (minO la ga)])) l (.lst (vs2 ++ [.ref p]))) vs ((((r.take i).flatMap fun s => r'.flatMap fun t => cut2 s t) ++ (r'.take j).flatMap fun t => cut2 (fi, la) t) ++ [(maxI fi gi, minO la ga)])) := fun {Q'} p np bb => by
          have sp := same_upd (o := .tup [.int (maxI fi gi), eV (minO la ga)]) np
          have hl3 := sp _ _ hl2
          refine ⟨_, upd_same, ?_⟩
          exact ((hF2.same sp).app (.cons ⟨p, rfl, upd_same⟩ .nil)).but But.upd (notT hl3)
        have bb : ∀ p, H2 p = none → But l H (upd (upd H2 p (.tup [.int (maxI fi gi), eV (minO la ga)])) l (.lst (vs2 ++ [.ref p]))) := fun p np => b2.trans ((But.of (same_upd np)).trans But.upd)
        have cut : cut2 (fi, la) (gi, ga) = if endOk (maxI fi gi) (minO la ga) = true then [(maxI fi gi, minO la ga)] else [] := rfl
        have go : endOk (maxI fi gi) (minO la ga) = true → ∀ (p : Addr), H2 p = none → (But l H (upd (upd H2 p (.tup [.int (maxI fi gi), eV (minO la ga)])) l (.lst (vs2 ++ [.ref p]))) ∧ ∃ vs, (upd (upd H2 p (.tup [.int (maxI fi gi), eV (minO la ga)])) l (.lst (vs2 ++ [.ref p]))) l = some (.lst vs) ∧ Shs (upd (upd H2 p (.tup [.int (maxI fi gi), eV (minO la ga)])) l (.lst (vs2 ++ [.ref p]))) vs (((r.take i).flatMap fun s => r'.flatMap fun t => cut2 s t) ++ (r'.take (j + 1)).flatMap fun t => cut2 (fi, la) t)) := fun ho p np => by
          rw [tk2, List.flatMap_append, List.flatMap_singleton, cut, if_pos ho, ← List.append_assoc]
          exact ⟨bb p np, app (Q' := True) p np (bb p np)⟩
        have len2 : vs2.length < sizeLine := small1000 (by rw [hF2.length]; omega)
        cases em2 : minO la ga with
        | none =>
          rw [em2] at go
          refine ⟨_, rfl, rfl, true, rfl, iteT ?_⟩
          refine ⟨_, rfl, .inl ⟨rfl, _, SqL.of hl2⟩, _, rfl, _, rfl, (by show 2 ≤ sizeLine; decide), fun p np => ?_⟩
          obtain ⟨g1, g2⟩ := go rfl p np
          exact ⟨l, _, _, rfl, rfl, same_upd np _ _ hl2, len2, g1, ⟨_, _, _, _, rfl⟩, g2⟩
        | some e0 =>
          rw [em2] at go
          refine ⟨_, rfl, rfl, false, rfl, iteF ?_⟩
          refine ⟨_, rfl, _, rfl, _, _, rfl, rfl, _, rfl, ite2 (fun e => ?_) (fun e => ?_)⟩
          · refine ⟨_, rfl, .inl ⟨rfl, _, SqL.of hl2⟩, _, rfl, _, rfl, (by show 2 ≤ sizeLine; decide), fun p np => ?_⟩
            obtain ⟨g1, g2⟩ := go e p np
            exact ⟨l, _, _, rfl, rfl, same_upd np _ _ hl2, len2, g1, ⟨_, _, _, _, rfl⟩, g2⟩
          · refine ⟨b2, ⟨_, _, _, _, rfl⟩, vs2, hl2, ?_⟩
            have ho : ¬ endOk (maxI fi gi) (minO la ga) = true := by
              rw [em2]
              exact e
            rw [tk2, List.flatMap_append, List.flatMap_singleton, cut, if_neg ho, List.append_nil]
            exact hF2
      · rintro σ H2 ⟨b2, ⟨v3, v4, v5, v6, rfl⟩, vs2, hl2, hF2⟩
        rw [hu.length, List.take_length] at hF2
        exact ⟨b2, ⟨_, _, _, _, _, _, rfl⟩, vs2, hl2, hF2⟩
    · rintro σ H1 ⟨b1, ⟨v1, v2, v3, v4, v5, v6, rfl⟩, vs1, hl1, hF1⟩
      rw [hw.length, List.take_length] at hF1
      refine ⟨_, rfl, l, _, rfl, .inl ⟨SqL.of hl1, fun z nz => ?_⟩⟩
      have s2 := same_upd (o := .tup vs1) nz
      have sH : Same H (upd H1 z (.tup vs1)) := fun x o e => s2 _ _ (b1 _ _ (ne_of_none e nl) e)
      refine k _ z sH ?_ ⟨_, upd_same, hF1.same s2⟩
      cases q : H z with
      | none => rfl
      | some o =>
        have := b1 z o (ne_of_none q nl) q
        rw [nz] at this
        cases this
abbrev s_gaps : Stmt := top 16
theorem sc_gaps : FnScope ["row", "found", "begin", "first", "last"] ["row"] (defScope s_gaps) := ⟨rfl, rfl, rfl, by decide +kernel, rfl, by decide +kernel, by decide +kernel⟩

theorem ok_gaps {f : Addr} {fd : FuncData} (F : Fun K "gaps" "gaps" s_gaps f fd) (T : Txt K mg) : FnOk P w K mg base CX0 1 f fd ["row"] spGaps := by
  refine F.ok sc_gaps (fun vs H Q E h => ?_) (fun cdv A outer s H vs Q E hr h => ?_)
  · obtain ⟨a, r, rfl, _⟩ := h
    rfl
  · obtain ⟨a, r, rfl, ⟨ws, ha, hw⟩, len, k⟩ := h
    refine ⟨_, (pss_cons (ps_set (i := 1) sc_gaps.nd rfl (.inl rfl) (pe_lst pa_nil))
      (pss_cons (ps_set (i := 2) sc_gaps.nd rfl (.inl rfl) pe_int)
      (pss_cons (ps_for PassesOwn.never rfl (pi_tup (pv 0)) (pg_tup rfl (pgs_cons (pg_name (i := 3) sc_gaps.nd rfl (.inl rfl)) (pgs_cons (pg_name (i := 4) sc_gaps.nd rfl (.inl rfl)) pgs_nil))) (pss_cons (ps_if (pt_cmpR op_lt (pv 2) (pv 3) (nomark _)) (pss_one (ps_expr (pe_bm PySem.F.plainAttrs_list PySem.F.slot_list_append PySem.F.type_list_append mt_append (pv 1) (pa_cons (pe_tup (pa_cons (pv 2) (pa_cons (pe_op op_sub (pv 3) pe_int) pa_nil))) pa_nil)))) pss_nil)
      (pss_cons (ps_if (pt_cmpR op_isN (pv 4) pe_non (nomark _)) (pss_one (ps_ret (pe_callTy call_tuple_of (by rfl) T.tuple_ (by decide +kernel) (pa_cons (pv 1) pa_nil)))) pss_nil)
      (pss_one (ps_set (i := 2) sc_gaps.nd rfl (.inl rfl) (pe_op op_add (pv 4) pe_int))))))
      (pss_cons (ps_expr (pe_bm PySem.F.plainAttrs_list PySem.F.slot_list_append PySem.F.type_list_append mt_append (pv 1) (pa_cons (pe_tup (pa_cons (pv 2) (pa_cons pe_non pa_nil))) pa_nil)))
      (pss_one (ps_ret (pe_callTy call_tuple_of (by rfl) T.tuple_ (by decide +kernel) (pa_cons (pv 1) pa_nil)))))))), ?_⟩
    refine ⟨Nat.zero_le _, fun l nl => ?_⟩
    have b0 : But l H (upd H l (.lst [])) := But.upd
    have hl0 : (upd H l (.lst [])) l = some (.lst []) := upd_same
    have notT : ∀ {H' : Hp} {xs : List V}, H' l = some (.lst xs) → ∀ ys, H' l ≠ some (.tup ys) := fun e ys z => by rw [e] at z; cases z
    have but2 : ∀ {H' : Hp} {a' : Addr} {ys : List V}, But l H H' → H a' = some (.tup ys) → H' a' = some (.tup ys) := fun bb e => bb _ _ (ne_of_none e nl) e
    generalize upd H l (.lst []) = H0 at *
    have fin : ∀ {H1 : Hp} {vs1 : List V}, But l H H1 → H1 l = some (.lst vs1) → Shs H1 vs1 (gapsF 0 r) → ∀ z, H1 z = none → Q (.ref z) (upd H1 z (.tup vs1)) := fun {H1 vs1} b1 hl1 hF1 z nz => by
      have s2 := same_upd (o := .tup vs1) nz
      have sH : Same H (upd H1 z (.tup vs1)) := fun x o e => s2 _ _ (b1 _ _ (ne_of_none e nl) e)
      refine k _ z sH ?_ ⟨_, upd_same, hF1.same s2⟩
      cases q : H z with
      | none => rfl
      | some o =>
        have := b1 z o (ne_of_none q nl) q
        rw [nz] at this
        cases this
    have push : ∀ {H1 : Hp} {vs1 : List V} {rr : List Sh} {s : Sh} {p : Addr}, But l H H1 → H1 l = some (.lst vs1) → Shs H1 vs1 rr → H1 p = none → But l H (upd (upd H1 p (.tup [.int s.1, eV s.2])) l (.lst (vs1 ++ [.ref p]))) ∧ (upd (upd H1 p (.tup [.int s.1, eV s.2])) l (.lst (vs1 ++ [.ref p]))) l = some (.lst (vs1 ++ [.ref p])) ∧ Shs (upd (upd H1 p (.tup [.int s.1, eV s.2])) l (.lst (vs1 ++ [.ref p]))) (vs1 ++ [.ref p]) (rr ++ [s]) := fun {H1 vs1 rr s p} b1 hl1 hF1 np => by
      have sp := same_upd (o := .tup [.int s.1, eV s.2]) np
      exact ⟨b1.trans ((But.of sp).trans But.upd), upd_same, ((hF1.same sp).app (.cons ⟨p, rfl, upd_same⟩ .nil)).but But.upd (notT (sp _ _ hl1))⟩
    refine ⟨_, rfl, a, rfl, ⟨_, SqT.of (but2 b0 ha)⟩, ?_⟩
    refine for_tup (K := K) (a := a) (xs := ws) (fun i σ H' => But l H H' ∧ ∃ (bg : Int) (rr : List Sh) (vs : List V) (v1 v2 : Option V), σ = [some (.ref a), some (.ref l), some (.int bg), v1, v2] ∧ H' l = some (.lst vs) ∧ Shs H' vs rr ∧ gapsF 0 r = rr ++ gapsF bg (r.drop i) ∧ rr.length ≤ i) ⟨b0, 0, [], [], _, _, rfl, hl0, .nil, rfl, Nat.le_refl _⟩ (fun i σ H' _ h => SqT.of (but2 h.1 ha)) ?_ ?_
    · rintro i y σ H1 hy ⟨b1, bg, rr, vs1, v1, v2, rfl, hl1, hF1, eg, lr⟩
      obtain ⟨⟨fi, la⟩, hs, t, rfl, ht⟩ := hw.at_ hy
      have ht := but2 b1 ht
      have il : i < r.length := (List.getElem?_eq_some_iff.mp hs).1
      have dr : r.drop i = (fi, la) :: r.drop (i + 1) := by
        rw [List.drop_eq_getElem_cons il]
        congr 1
        have := List.getElem?_eq_getElem il
        rw [hs] at this
        exact (Option.some.inj this).symm
      rw [dr] at eg
      refine ⟨t, _, rfl, SqT.of ht, rfl, _, _, rfl, _, _, rfl, rfl, ?_⟩
      have len2 : vs1.length < sizeLine := small1000 (by rw [hF1.length]; omega)
      -- behind the first if
      have rest : ∀ {H2 : Hp} {vs2 : List V} {rr2 : List Sh}, But l H H2 → H2 l = some (.lst vs2) → Shs H2 vs2 rr2 → rr2.length ≤ i + 1 → gapsF 0 r = rr2 ++ gtail la (r.drop (i + 1)) → (la = none → ∀ z, H2 z = none → Q (.ref z) (upd H2 z (.tup vs2))) ∧ ∀ l0, la = some l0 → gapsF 0 r = rr2 ++ gapsF (l0 + 1) (r.drop (i + 1)) := fun {H2 vs2 rr2} b2 hl2 hF2 lr2 e2 => by
        refine ⟨fun hn z nz => ?_, fun l0 hn => ?_⟩
        · subst hn
          have e2' : gapsF 0 r = rr2 ++ [] := e2
          rw [List.append_nil] at e2'
          rw [← e2'] at hF2
          exact fin b2 hl2 hF2 z nz
        · subst hn
          exact e2
      refine ⟨_, rfl, _, rfl, _, _, rfl, rfl, _, rfl, ite2 (fun e => ?_) (fun e => ?_)⟩
      · have e0 : bg < fi := of_decide_eq_true e
        refine ⟨_, rfl, .inl ⟨rfl, _, SqL.of hl1⟩, _, rfl, _, rfl, _, _, rfl, rfl, (by show 2 ≤ sizeLine; decide), fun p np => ⟨l, _, _, rfl, rfl, same_upd np _ _ hl1, len2, ?_⟩⟩
        obtain ⟨b2, hl2, hF2⟩ := push (s := (bg, some (fi - 1))) b1 hl1 hF1 np
        have e2 : gapsF 0 r = (rr ++ [(bg, some (fi - 1))]) ++ gtail la (r.drop (i + 1)) := by
          rw [eg, gaps_cons, if_pos e0, List.append_assoc]
        obtain ⟨r1, r2⟩ := rest b2 hl2 hF2 (by rw [List.length_append]; show rr.length + 1 ≤ i + 1; omega) e2
        cases la with
        | none => exact ⟨_, rfl, rfl, true, rfl, iteT ⟨_, rfl, l, _, rfl, .inl ⟨SqL.of hl2, r1 rfl⟩⟩⟩
        | some l0 => exact ⟨_, rfl, rfl, false, rfl, iteF ⟨_, rfl, _, _, rfl, rfl, b2, l0 + 1, _, _, _, _, rfl, hl2, hF2, r2 l0 rfl, by rw [List.length_append]; show rr.length + 1 ≤ i + 1; omega⟩⟩
      · have e0 : ¬ bg < fi := fun z => e (decide_eq_true z)
        have e2 : gapsF 0 r = rr ++ gtail la (r.drop (i + 1)) := by
          rw [eg, gaps_cons, if_neg e0, List.nil_append]
        obtain ⟨r1, r2⟩ := rest b1 hl1 hF1 (by omega) e2
        cases la with
        | none => exact ⟨_, rfl, rfl, true, rfl, iteT ⟨_, rfl, l, _, rfl, .inl ⟨SqL.of hl1, r1 rfl⟩⟩⟩
        | some l0 => exact ⟨_, rfl, rfl, false, rfl, iteF ⟨_, rfl, _, _, rfl, rfl, b1, l0 + 1, _, _, _, _, rfl, hl1, hF1, r2 l0 rfl, by omega⟩⟩
    · rintro σ H1 ⟨b1, bg, rr, vs1, v1, v2, rfl, hl1, hF1, eg, lr⟩
      rw [hw.length, List.drop_length] at eg
      have len2 : vs1.length < sizeLine := small1000 (by rw [hF1.length]; have := hw.length; omega)
      refine ⟨_, rfl, .inl ⟨rfl, _, SqL.of hl1⟩, _, rfl, (by show 2 ≤ sizeLine; decide), fun p np => ⟨l, _, _, rfl, rfl, same_upd np _ _ hl1, len2, ?_⟩⟩
      obtain ⟨b2, hl2, hF2⟩ := push (s := (bg, none)) b1 hl1 hF1 np
      refine ⟨_, rfl, l, _, rfl, .inl ⟨SqL.of hl2, fin b2 hl2 ?_⟩⟩
      rw [eg]
      exact hF2
abbrev s_Numbers_init : Stmt := inClass (top 10) 0
theorem sc_Numbers_init : FnScope ["self", "stretches", "least", "at", "stretch"] ["self", "stretches"] (defScope s_Numbers_init) := ⟨rfl, rfl, rfl, by decide +kernel, rfl, by decide +kernel, by decide +kernel⟩

theorem ok_ninit {f : Addr} {fd : FuncData} (F : Fun K "__init__" "Numbers.__init__" s_Numbers_init f fd) (T : TxtN K mg C) (D_is_stretch : Df P w K mg base 2 "is_stretch" ["value", "least"] spIsSt) (D_least_first_behind : Df P w K mg base 1 "least_first_behind" ["stretch"] spLeast) : FnR P w K mg base CX0 3 f (star1 (spNI C)) := by
  refine okStar (p1 := "self") (pv := "stretches") F sc_Numbers_init (fun _ _ _ _ _ _ => StX.bind_star1 (B := fun us => bindArgs _ ⟨us, []⟩) (fun _ => rfl) (fun _ _ _ => rfl)) (fun cdv A outer s H vs Q E hr h => ?_)
  obtain ⟨x, dx, p, r, rfl, hx, ⟨ws, hp, hw⟩, hF, k⟩ := h
  refine ⟨_, (pss_cons (ps_set (i := 2) sc_Numbers_init.nd rfl (.inl rfl) pe_int)
      (pss_cons (ps_for PassesOwn.never rfl (pi_enumT (by rfl) T.enumerate (pa_cons (pv 1) pa_nil)) (pg_tup rfl (pgs_cons (pg_name (i := 3) sc_Numbers_init.nd rfl (.inl rfl)) (pgs_cons (pg_name (i := 4) sc_Numbers_init.nd rfl (.inl rfl)) pgs_nil))) (pss_cons (ps_if (PW.pt (pw_or (pt_cmpR op_isN (pv 2) pe_non (nomark _)) (pw_or1 (pt_not (pt_val (pe_df D_is_stretch (hr.mono (by decide)) (by rfl) (pa_cons (pv 4) (pa_cons (pv 2) pa_nil)))))))) (pss_one ps_never) pss_nil)
      (pss_one (ps_set (i := 2) sc_Numbers_init.nd rfl (.inl rfl) (pe_df D_least_first_behind (hr.mono (by decide)) (by rfl) (pa_cons (pv 4) pa_nil))))))
      (pss_one (ps_fld (pv 0) (pv 1) rfl)))), ?_⟩
  refine ⟨_, rfl, p, _, rfl, SqT.of hp, ?_⟩
  refine for_enumT (K := K) (a := p) (xs := ws) (fun i σ H' => Same H H' ∧ ∃ (bo : Option Int) (v1 v2 : Option V), σ = [some (.ref x), some (.ref p), some (eV bo), v1, v2] ∧ lowEnd bo (r.drop i)) ⟨Same.refl _, some 0, none, none, rfl, hF⟩ (fun i σ H' _ h => SqT.of (h.1 _ _ hp)) ?_ ?_
  · rintro i y σ H' T0 hy ⟨sm, bo, v1, v2, rfl, hb⟩ nT
    refine ⟨T0, _, rfl, SqT.of upd_same, rfl, _, _, rfl, _, _, rfl, rfl, ?_⟩
    obtain ⟨⟨fi, la⟩, hs, hy'⟩ := hw.at_ hy
    have il : i < r.length := (List.getElem?_eq_some_iff.mp hs).1
    have dr : r.drop i = (fi, la) :: r.drop (i + 1) := by
      rw [List.drop_eq_getElem_cons il]
      congr 1
      have := List.getElem?_eq_getElem il
      rw [hs] at this
      exact (Option.some.inj this).symm
    rw [dr] at hb
    have s2 := sm.trans (same_upd (o := .tup [.int (i : Nat), y]) nT)
    cases bo with
    | none => exact absurd hb (by intro z; cases z)
    | some b0 =>
      obtain ⟨f1, f2, f3⟩ := Form.step (show Form b0 ((fi, la) :: r.drop (i + 1)) from hb)
      refine ⟨_, rfl, rfl, false, rfl, iteF ?_⟩
      refine ⟨_, rfl, _, rfl, y, b0, (fi, la), rfl, hy'.same s2, f1, f2, true, rfl, iteF ?_⟩
      exact ⟨_, rfl, y, (fi, la), rfl, hy'.same s2, s2, la.map (· + 2), _, _, rfl, f3⟩
  · rintro σ H' ⟨sm, bo, v1, v2, rfl, hb⟩
    have hx' := sm _ _ hx
    refine ⟨_, rfl, _, rfl, x, C, dx, _, rfl, hx', T.cl, T.nHeld, (by show 0 < 1000; decide), ?_⟩
    have b2 : But x H' (upd H' x (.ins C dx [("held", .ref p)])) := But.upd
    exact k _ ((But.of sm).trans b2) ⟨dx, p, upd_same, (show ShT H' p r from ⟨ws, sm _ _ hp, hw.same sm⟩).but b2 (fun xs z => by rw [hx'] at z; cases z)⟩
end
end RL

set_option maxHeartbeats 1000000
namespace RL
open PySem L2 PySem.Spec PyProof.Rows
/-- a new set -/
theorem make_num {C : Addr} {H : Hp} {z dz : Addr} {ws : List V} {r : List Sh} {R : Hp → Prop} (nz : H z = none) (ndz : H dz = none) (hw : Shs H ws r) (hF : Form 0 r) (hl : r.length ≤ 1000) (k : ∀ H', Same H H' → NumAt C H' z r → R H') :
    star1 (spNI C) (.ref z :: ws) (upd (upd H dz (.own z)) z (.ins C dz [])) (fun v H3 => v = .non ∧ R H3) E0 := by
  refine ⟨[.ref z], ws, rfl, rfl, Nat.le_of_lt (small1000 (by rw [hw.length]; exact hl)), fun p np => ?_⟩
  have s2 : Same H (upd (upd H dz (.own z)) z (.ins C dz [])) := fun b o e => by
    rw [upd_ne (ne_of_none e nz), upd_ne (ne_of_none e ndz)]
    exact e
  have s3 := s2.trans (same_upd (o := .tup ws) np)
  have hz : (upd (upd (upd H dz (.own z)) z (.ins C dz [])) p (.tup ws)) z = some (.ins C dz []) := by
    rw [upd_ne (ne_of_none (upd_same (H := upd H dz (.own z)) (a := z) (o := .ins C dz [])) np), upd_same]
  refine ⟨z, dz, p, r, rfl, hz, ⟨ws, upd_same, hw.same s3⟩, hF, fun H' b hP => ⟨rfl, k H' ?_ hP⟩⟩
  intro b' o e
  exact b _ _ (ne_of_none e nz) (s3 _ _ e)
/-! ### the texts of rows -/
def shT (s : Sh) : Str := match s.2 with
  | none => Str.ofString "from " ++ ts s.1
  | some l => if s.1 = l then ts s.1 else ts s.1 ++ Str.ofString " to " ++ ts l
def rowT (r : List Sh) : Str := Txt.join (Str.ofString ", ") (r.map shT)
def ShSm (s : Sh) : Prop := Sm 200 s.1 ∧ ∀ l, s.2 = some l → Sm 200 l
/-! ### promises -/
def spCont (C : Addr) : Sp := fun vs H Q _ => ∃ (x : Addr) (n : Int) (r : List Sh), vs = [.ref x, .int n] ∧ NumAt C H x r ∧ r.length ≤ 1000 ∧ ∀ H', Same H H' → Q (.bl (heldb r n)) H'
def spBin (C : Addr) (g : List Sh → List Sh → List Sh) (ok : List Sh → List Sh → Prop) : Sp := fun vs H Q _ => ∃ (x y : Addr) (r r' : List Sh), vs = [.ref x, .ref y] ∧ NumAt C H x r ∧ NumAt C H y r' ∧ Form 0 r ∧ Form 0 r' ∧ ok r r' ∧ ∀ H' z, Same H H' → H z = none → NumAt C H' z (g r r') → Q (.ref z) H'
def okA (r r' : List Sh) : Prop := r.length * r'.length ≤ 900
def okO (r r' : List Sh) : Prop := (r.length + 1) * (r'.length + 1) ≤ 900
def subR (r r' : List Sh) : List Sh := commonR r (gapsF 0 r')
def spInv (C : Addr) : Sp := fun vs H Q _ => ∃ (x : Addr) (r : List Sh), vs = [.ref x] ∧ NumAt C H x r ∧ Form 0 r ∧ r.length ≤ 900 ∧ ∀ H' z, Same H H' → H z = none → NumAt C H' z (gapsF 0 r) → Q (.ref z) H'
def spEqN (C : Addr) : Sp := fun vs H Q _ => ∃ (x y : Addr) (r r' : List Sh), vs = [.ref x, .ref y] ∧ NumAt C H x r ∧ NumAt C H y r' ∧ Q (.bl (decide (r = r'))) H
def spStr (C : Addr) : Sp := fun vs H Q _ => ∃ (x dx q : Addr), vs = [.ref x] ∧ H x = some (.ins C dx [("held", .ref q)]) ∧ Q (.ref q) H
def spShT : Sp := fun vs H Q _ => ∃ s : Sh, vs = [.int s.1, eV s.2] ∧ ShSm s ∧ Q (.str (shT s)) H
def spRowT : Sp := fun vs H Q _ => ∃ (a : Addr) (r : List Sh), vs = [.ref a] ∧ ShT H a r ∧ (∀ s ∈ r, ShSm s) ∧ 1 ≤ r.length ∧ r.length ≤ 100 ∧ ∀ H', Same H H' → Q (.str (rowT r)) H'
def spTxt (C : Addr) : Sp := fun vs H Q _ => ∃ (x : Addr) (r : List Sh), vs = [.ref x] ∧ NumAt C H x r ∧ (∀ s ∈ r, ShSm s) ∧ 1 ≤ r.length ∧ r.length ≤ 100 ∧ ∀ H', Same H H' → Q (.str (rowT r)) H'
structure OwB (P : Program) (w : World) (K : PySem.W.Frag) (mg : Str → Option Value) (base : Heap) (C : Addr) (op : Operator) (sp : Sp) (g : Addr) (fd : FuncData) : Prop where
  sf : PySem.W.selfFirst K C = true
  at_ : PySem.W.findIn K (.ref C) (PySem.dunder op.info.2) = some (some (.ref g))
  fn : PySem.W.isFn K (.ref g) = true
  ok : FnOk P w K mg base CX0 5 g fd ["self", "other"] sp
  b : Binds K fd ["self", "other"] []
structure OwI (P : Program) (w : World) (K : PySem.W.Frag) (mg : Str → Option Value) (base : Heap) (C g : Addr) (fd : FuncData) : Prop where
  at_ : PySem.W.findIn K (.ref C) "__invert__" = some (some (.ref g))
  fn : PySem.W.isFn K (.ref g) = true
  ok : FnOk P w K mg base CX0 5 g fd ["self"] (spInv C)
  b : Binds K fd ["self"] []
structure OwC (P : Program) (w : World) (K : PySem.W.Frag) (mg : Str → Option Value) (base : Heap) (C g : Addr) (fd : FuncData) : Prop where
  at_ : PySem.W.findIn K (.ref C) "__contains__" = some (some (.ref g))
  fn : PySem.W.isFn K (.ref g) = true
  ok : FnOk P w K mg base CX0 2 g fd ["self", "x"] (spCont C)
  b : Binds K fd ["self", "x"] []
structure OwE (P : Program) (w : World) (K : PySem.W.Frag) (mg : Str → Option Value) (base : Heap) (C g : Addr) (fd : FuncData) : Prop where
  e_at : PySem.W.findIn K (.ref C) "__eq__" = some (some (.ref g))
  e_fn : PySem.W.isFn K (.ref g) = true
  ok : FnOk P w K mg base CX0 1 g fd ["self", "other"] (spEqN C)
  b : Binds K fd ["self", "other"] []
  n_at : PySem.W.findIn K (.ref C) "__ne__" = some (some (.builtin "object.__ne__"))
  n_sub : PySem.W.subIn K (.ref C) (.type "object") = some true
structure OwS (P : Program) (w : World) (K : PySem.W.Frag) (mg : Str → Option Value) (base : Heap) (C p g : Addr) (fd : FuncData) : Prop where
  pr : PropOf K C "stretches" p g
  ok : FnOk P w K mg base CX0 1 g fd ["self"] (spStr C)
  b : Binds K fd ["self"] []
structure OwT (P : Program) (w : World) (K : PySem.W.Frag) (mg : Str → Option Value) (base : Heap) (C g : Addr) (fd : FuncData) : Prop where
  at_ : PySem.W.findIn K (.ref C) "__str__" = some (some (.ref g))
  fn : PySem.W.isFn K (.ref g) = true
  ok : FnOk P w K mg base CX0 3 g fd ["self"] (spTxt C)
  b : Binds K fd ["self"] []
theorem shT_ok {s : Sh} (h : ShSm s) : OkT 700 (shT s) := by
  obtain ⟨h1, h2⟩ := h
  unfold shT
  split
  · exact ((OkT.of "from ").app (ts_ok h1)).mono (by decide)
  · next l e =>
    split
    · exact (ts_ok h1).mono (by decide)
    · exact (((ts_ok h1).app (OkT.of " to ")).app (ts_ok (h2 l e))).mono (by decide)
section
variable {P : Program} {w : World} {K : PySem.W.Frag} {mg : Str → Option Value} {base : Heap} {C fN : Addr}
abbrev s_Numbers_stretches : Stmt := inClass (top 10) 1
theorem sc_Numbers_stretches : FnScope ["self"] ["self"] (defScope s_Numbers_stretches) := ⟨rfl, rfl, rfl, by decide +kernel, rfl, by decide +kernel, by decide +kernel⟩

theorem ok_strs {f : Addr} {fd : FuncData} (F : Fun K "stretches" "Numbers.stretches" s_Numbers_stretches f fd) (T : TxtN K mg C) : FnOk P w K mg base CX0 1 f fd ["self"] (spStr C) := by
  refine F.ok sc_Numbers_stretches (fun vs H Q E h => ?_) (fun cdv A outer s H vs Q E hr h => ?_)
  · obtain ⟨x, dx, q, rfl, _⟩ := h
    rfl
  · obtain ⟨x, dx, q, rfl, hx, k⟩ := h
    refine ⟨_, (pss_one (ps_ret (pe_fld (pv 0) rfl))), ?_⟩
    exact ⟨_, rfl, x, C, dx, _, _, rfl, hx, T.cl, T.nHeld, lkH _, k⟩
abbrev s_Numbers_contains : Stmt := inClass (top 10) 5
theorem sc_Numbers_contains : FnScope ["self", "x", "stretch"] ["self", "x"] (defScope s_Numbers_contains) := ⟨rfl, rfl, rfl, by decide +kernel, rfl, by decide +kernel, by decide +kernel⟩

theorem ok_cont {f : Addr} {fd : FuncData} (F : Fun K "__contains__" "Numbers.__contains__" s_Numbers_contains f fd) (T : TxtN K mg C) (D_is_integer : Df P w K mg base 1 "is_integer" ["value"] spIsInt) (D_lies_within : Df P w K mg base 1 "lies_within" ["number", "stretch"] spLies) : FnOk P w K mg base CX0 2 f fd ["self", "x"] (spCont C) := by
  refine F.ok sc_Numbers_contains (fun vs H Q E h => ?_) (fun cdv A outer s H vs Q E hr h => ?_)
  · obtain ⟨x, n, r, rfl, _⟩ := h
    rfl
  · obtain ⟨x, n, r, rfl, ⟨dx, q, hx, ws, hq, hw⟩, len, k⟩ := h
    refine ⟨_, (pss_one (ps_ret (pe_and (pe_df D_is_integer (hr.mono (by decide)) (by rfl) (pa_cons (pv 1) pa_nil)) (pe_one (pe_callB (cr_any rfl) (by rfl) T.any (by decide +kernel) (pa_cons (pe_lc (own := [("stretch", 2)]) (g := gName 2) (tt := tYes) rfl sc_Numbers_contains.nd (pi_tup (pe_fld (pv 0) rfl)) (blkOk_by (N := ["self", "x", "stretch"]) (sc := defScope s_Numbers_contains) (by decide +kernel)) (fun _ _ _ _ _ => pg_name (i := 2) sc_Numbers_contains.nd rfl (Or.inl rfl)) (fun _ _ _ _ _ => pts_nil) (fun _ _ _ _ _ => (pe_df D_lies_within (hr.mono (by decide)) (by rfl) (pa_cons (pv 1) (pa_cons (pv 2) pa_nil))))) pa_nil)))))), ?_⟩
    refine ⟨_, rfl, n, rfl, true, rfl, iteT ?_⟩
    refine ⟨_, rfl, x, C, dx, _, _, rfl, hx, T.cl, T.nHeld, lkH _, q, rfl, ⟨_, SqT.of hq⟩, fun D hD => ?_⟩
    refine lc_tup (K := K) (a := q) (xs := ws) (fun i H' => But D H H' ∧ H' D = some (.lst (((r.take i).map fun s => inb s n).map V.bl))) ⟨But.upd, upd_same⟩ (fun i H' _ h => SqT.of (h.1 _ _ (ne_of_none hq hD) hq)) ?_ ?_
    · rintro i y H' hy ⟨bD, hDi⟩
      obtain ⟨s, hs, hy'⟩ := hw.at_ hy
      have il : i < r.length := (List.getElem?_eq_some_iff.mp hs).1
      refine ⟨rfl, ?_⟩
      unfold tYes
      refine iteT ?_
      refine ⟨_, rfl, _, rfl, n, y, s, rfl, hy'.but bD (fun xs z => by rw [hD] at z; cases z), _, hDi, ?_, ?_, ?_⟩
      · rw [List.length_map, List.length_map, List.length_take]
        exact small1000 (by omega)
      · intro q' o nq e'
        rw [upd_ne nq]
        exact bD _ _ nq e'
      · rw [upd_same, List.take_succ, hs]
        simp
    · rintro H' ⟨bD, hDn⟩
      rw [hw.length, List.take_length] at hDn
      refine ⟨D, _, rfl, SqL.of hDn, ?_⟩
      have e : (r.map fun s => inb s n).any id = heldb r n := by
        unfold heldb
        rw [List.any_map]
        rfl
      rw [e]
      exact k _ fun q o e => bD _ _ (ne_of_none e hD) e
abbrev s_Numbers_and : Stmt := inClass (top 10) 6
theorem sc_Numbers_and : FnScope ["self", "other", "row"] ["self", "other"] (defScope s_Numbers_and) := ⟨rfl, rfl, rfl, by decide +kernel, rfl, by decide +kernel, by decide +kernel⟩

theorem ok_and {f : Addr} {fd : FuncData} (F : Fun K "__and__" "Numbers.__and__" s_Numbers_and f fd) (T : TxtN K mg C) (X_num : NumD P w K mg base C fN) (D_common : Df P w K mg base 2 "common" ["row", "other_row"] spCommon) : FnOk P w K mg base CX0 5 f fd ["self", "other"] (spBin C commonR okA) := by
  refine F.ok sc_Numbers_and (fun vs H Q E h => ?_) (fun cdv A outer s H vs Q E hr h => ?_)
  · obtain ⟨x, y, r, r', rfl, _⟩ := h
    rfl
  · obtain ⟨x, y, r, r', rfl, ⟨dx, q, hx, hq⟩, ⟨dy, q', hy, hq'⟩, hF, hF', len, k⟩ := h
    refine ⟨_, (pss_cons (ps_set (i := 2) sc_Numbers_and.nd rfl (.inl rfl) (pe_df D_common (hr.mono (by decide)) (by rfl) (pa_cons (pe_fld (pv 0) rfl) (pa_cons (pe_fld (pv 1) rfl) pa_nil))))
      (pss_one (ps_ret (pe_makeS1 X_num.m X_num.fn (hr.mono (by decide)) rfl T.mgC pass0 (pv 2))))), ?_⟩
    refine ⟨_, rfl, x, C, dx, _, _, rfl, hx, T.cl, T.nHeld, lkH _, _, rfl, y, C, dy, _, _, rfl, hy, T.cl, T.nHeld, lkH _, q, q', r, r', rfl, hq, hq', len, fun H1 z s1 nz ⟨ws, hz, hw⟩ => ?_⟩
    refine ⟨_, rfl, z, _, rfl, .inl (SqT.of hz), fun x' dx' nx ndx nex => ?_⟩
    have cl := common_len r r'
    exact make_num nx ndx hw (form_common hF hF') (by unfold okA at len; omega) fun H' s2 hN => k H' x' (s1.trans s2) (s1.free nx) hN
abbrev s_Numbers_or : Stmt := inClass (top 10) 7
theorem sc_Numbers_or : FnScope ["self", "other", "row"] ["self", "other"] (defScope s_Numbers_or) := ⟨rfl, rfl, rfl, by decide +kernel, rfl, by decide +kernel, by decide +kernel⟩

theorem ok_or {f : Addr} {fd : FuncData} (F : Fun K "__or__" "Numbers.__or__" s_Numbers_or f fd) (T : TxtN K mg C) (X_num : NumD P w K mg base C fN) (D_common : Df P w K mg base 2 "common" ["row", "other_row"] spCommon) (D_gaps : Df P w K mg base 1 "gaps" ["row"] spGaps) : FnOk P w K mg base CX0 5 f fd ["self", "other"] (spBin C orR okO) := by
  refine F.ok sc_Numbers_or (fun vs H Q E h => ?_) (fun cdv A outer s H vs Q E hr h => ?_)
  · obtain ⟨x, y, r, r', rfl, _⟩ := h
    rfl
  · obtain ⟨x, y, r, r', rfl, ⟨dx, q, hx, hq⟩, ⟨dy, q', hy, hq'⟩, hF, hF', len, k⟩ := h
    refine ⟨_, (pss_cons (ps_set (i := 2) sc_Numbers_or.nd rfl (.inl rfl) (pe_df D_gaps (hr.mono (by decide)) (by rfl) (pa_cons (pe_df D_common (hr.mono (by decide)) (by rfl) (pa_cons (pe_df D_gaps (hr.mono (by decide)) (by rfl) (pa_cons (pe_fld (pv 0) rfl) pa_nil)) (pa_cons (pe_df D_gaps (hr.mono (by decide)) (by rfl) (pa_cons (pe_fld (pv 1) rfl) pa_nil)) pa_nil))) pa_nil)))
      (pss_one (ps_ret (pe_makeS1 X_num.m X_num.fn (hr.mono (by decide)) rfl T.mgC pass0 (pv 2))))), ?_⟩
    have g1 := gaps_len r 0
    have g2 := gaps_len r' 0
    have cl := common_len (gapsF 0 r) (gapsF 0 r')
    have pl : (gapsF 0 r).length * (gapsF 0 r').length ≤ (r.length + 1) * (r'.length + 1) := Nat.mul_le_mul g1 g2
    have rl : r.length ≤ 900 := by
      have : (r.length + 1) * 1 ≤ (r.length + 1) * (r'.length + 1) := Nat.mul_le_mul_left _ (by omega)
      unfold okO at len
      omega
    have rl' : r'.length ≤ 900 := by
      have : 1 * (r'.length + 1) ≤ (r.length + 1) * (r'.length + 1) := Nat.mul_le_mul_right _ (by omega)
      unfold okO at len
      omega
    unfold okO at len
    refine ⟨_, rfl, x, C, dx, _, _, rfl, hx, T.cl, T.nHeld, lkH _, q, r, rfl, hq, rl, fun H1 z1 s1 n1 h1 => ?_⟩
    refine ⟨_, rfl, y, C, dy, _, _, rfl, s1 _ _ hy, T.cl, T.nHeld, lkH _, q', r', rfl, hq'.same s1, rl', fun H2 z2 s2 n2 h2 => ?_⟩
    refine ⟨z1, z2, _, _, rfl, h1.same s2, h2, by omega, fun H3 z3 s3 n3 h3 => ?_⟩
    refine ⟨z3, _, rfl, h3, by omega, fun H4 z4 s4 n4 ⟨ws, hz, hw⟩ => ?_⟩
    refine ⟨_, rfl, z4, _, rfl, .inl (SqT.of hz), fun x' dx' nx ndx nex => ?_⟩
    have sA := ((s1.trans s2).trans s3).trans s4
    have gl := gaps_len (commonR (gapsF 0 r) (gapsF 0 r')) 0
    exact make_num nx ndx hw (form_or hF hF') (by omega) fun H' s5 hN => k H' x' (sA.trans s5) (sA.free nx) hN
abbrev s_Numbers_sub : Stmt := inClass (top 10) 8
theorem sc_Numbers_sub : FnScope ["self", "other", "row"] ["self", "other"] (defScope s_Numbers_sub) := ⟨rfl, rfl, rfl, by decide +kernel, rfl, by decide +kernel, by decide +kernel⟩

theorem ok_sub {f : Addr} {fd : FuncData} (F : Fun K "__sub__" "Numbers.__sub__" s_Numbers_sub f fd) (T : TxtN K mg C) (X_num : NumD P w K mg base C fN) (D_common : Df P w K mg base 2 "common" ["row", "other_row"] spCommon) (D_gaps : Df P w K mg base 1 "gaps" ["row"] spGaps) : FnOk P w K mg base CX0 5 f fd ["self", "other"] (spBin C subR okO) := by
  refine F.ok sc_Numbers_sub (fun vs H Q E h => ?_) (fun cdv A outer s H vs Q E hr h => ?_)
  · obtain ⟨x, y, r, r', rfl, _⟩ := h
    rfl
  · obtain ⟨x, y, r, r', rfl, ⟨dx, q, hx, hq⟩, ⟨dy, q', hy, hq'⟩, hF, hF', len, k⟩ := h
    refine ⟨_, (pss_cons (ps_set (i := 2) sc_Numbers_sub.nd rfl (.inl rfl) (pe_df D_common (hr.mono (by decide)) (by rfl) (pa_cons (pe_fld (pv 0) rfl) (pa_cons (pe_df D_gaps (hr.mono (by decide)) (by rfl) (pa_cons (pe_fld (pv 1) rfl) pa_nil)) pa_nil))))
      (pss_one (ps_ret (pe_makeS1 X_num.m X_num.fn (hr.mono (by decide)) rfl T.mgC pass0 (pv 2))))), ?_⟩
    have g2 := gaps_len r' 0
    have cl := common_len r (gapsF 0 r')
    have pl : r.length * (gapsF 0 r').length ≤ (r.length + 1) * (r'.length + 1) := Nat.mul_le_mul (by omega) g2
    have rl' : r'.length ≤ 900 := by
      have : 1 * (r'.length + 1) ≤ (r.length + 1) * (r'.length + 1) := Nat.mul_le_mul_right _ (by omega)
      unfold okO at len
      omega
    unfold okO at len
    refine ⟨_, rfl, x, C, dx, _, _, rfl, hx, T.cl, T.nHeld, lkH _, ?_⟩
    refine ⟨_, rfl, y, C, dy, _, _, rfl, hy, T.cl, T.nHeld, lkH _, q', r', rfl, hq', rl', fun H2 z2 s2 n2 h2 => ?_⟩
    refine ⟨q, z2, _, _, rfl, hq.same s2, h2, by omega, fun H3 z3 s3 n3 ⟨ws, hz, hw⟩ => ?_⟩
    refine ⟨_, rfl, z3, _, rfl, .inl (SqT.of hz), fun x' dx' nx ndx nex => ?_⟩
    have sA := s2.trans s3
    exact make_num nx ndx hw (form_common hF (form_gaps hF')) (by omega) fun H' s5 hN => k H' x' (sA.trans s5) (sA.free nx) hN
abbrev s_Numbers_invert : Stmt := inClass (top 10) 9
theorem sc_Numbers_invert : FnScope ["self", "row"] ["self"] (defScope s_Numbers_invert) := ⟨rfl, rfl, rfl, by decide +kernel, rfl, by decide +kernel, by decide +kernel⟩

theorem ok_inv {f : Addr} {fd : FuncData} (F : Fun K "__invert__" "Numbers.__invert__" s_Numbers_invert f fd) (T : TxtN K mg C) (X_num : NumD P w K mg base C fN) (D_gaps : Df P w K mg base 1 "gaps" ["row"] spGaps) : FnOk P w K mg base CX0 5 f fd ["self"] (spInv C) := by
  refine F.ok sc_Numbers_invert (fun vs H Q E h => ?_) (fun cdv A outer s H vs Q E hr h => ?_)
  · obtain ⟨x, r, rfl, _⟩ := h
    rfl
  · obtain ⟨x, r, rfl, ⟨dx, q, hx, hq⟩, hF, len, k⟩ := h
    refine ⟨_, (pss_cons (ps_set (i := 1) sc_Numbers_invert.nd rfl (.inl rfl) (pe_df D_gaps (hr.mono (by decide)) (by rfl) (pa_cons (pe_fld (pv 0) rfl) pa_nil)))
      (pss_one (ps_ret (pe_makeS1 X_num.m X_num.fn (hr.mono (by decide)) rfl T.mgC pass0 (pv 1))))), ?_⟩
    refine ⟨_, rfl, x, C, dx, _, _, rfl, hx, T.cl, T.nHeld, lkH _, q, r, rfl, hq, len, fun H1 z1 s1 n1 ⟨ws, hz, hw⟩ => ?_⟩
    refine ⟨_, rfl, z1, _, rfl, .inl (SqT.of hz), fun x' dx' nx ndx nex => ?_⟩
    have gl := gaps_len r 0
    exact make_num nx ndx hw (form_gaps hF) (by omega) fun H' s2 hN => k H' x' (s1.trans s2) (s1.free nx) hN
abbrev s_Numbers_eq : Stmt := inClass (top 10) 10
theorem sc_Numbers_eq : FnScope ["self", "other"] ["self", "other"] (defScope s_Numbers_eq) := ⟨rfl, rfl, rfl, by decide +kernel, rfl, by decide +kernel, by decide +kernel⟩

theorem ok_eqn {f : Addr} {fd : FuncData} (F : Fun K "__eq__" "Numbers.__eq__" s_Numbers_eq f fd) (T : TxtN K mg C) (I : IsC K C) : FnOk P w K mg base CX0 1 f fd ["self", "other"] (spEqN C) := by
  refine F.ok sc_Numbers_eq (fun vs H Q E h => ?_) (fun cdv A outer s H vs Q E hr h => ?_)
  · obtain ⟨x, y, r, r', rfl, _⟩ := h
    rfl
  · obtain ⟨x, y, r, r', rfl, ⟨dx, q, hx, hq⟩, ⟨dy, q', hy, hq'⟩, k⟩ := h
    refine ⟨_, (pss_one (ps_ret (pe_and (pe_callB call_isi (by rfl) T.isinstance (by decide +kernel) (pa_cons (pv 1) (pa_cons (pe_glob (v := .ref C) rfl T.mgC rfl) pa_nil))) (pe_one (pe_cmpR (op_eqD hr.units) (pe_fld (pv 0) rfl) (pe_fld (pv 1) rfl) (nomark _)))))), ?_⟩
    refine ⟨_, rfl, _, _, _, _, true, rfl, .own C, .base (.ins hy T.cl I.ca I.cn I.ct I.cm), I.is_, true, rfl, iteT ?_⟩
    refine ⟨_, rfl, x, C, dx, _, _, rfl, hx, T.cl, T.nHeld, lkH _, _, rfl, y, C, dy, _, _, rfl, hy, T.cl, T.nHeld, lkH _, ?_⟩
    refine ⟨_, _, dp_shT hq, dp_shT hq', sh_rowT r, sh_rowT r', ?_⟩
    have e : PyData.eqv (.tuple (rowD r)) (.tuple (rowD r')) = decide (r = r') := by
      rw [← eqv_rows]
      simp [PyData.eqv]
    rw [e]
    exact k
abbrev s_stretch_text : Stmt := top 18
theorem sc_stretch_text : FnScope ["first", "last"] ["first", "last"] (defScope s_stretch_text) := ⟨rfl, rfl, rfl, by decide +kernel, rfl, by decide +kernel, by decide +kernel⟩

theorem ok_sht {f : Addr} {fd : FuncData} (F : Fun K "stretch_text" "stretch_text" s_stretch_text f fd) (T : Txt K mg) : FnOk P w K mg base CX0 1 f fd ["first", "last"] spShT := by
  refine F.ok sc_stretch_text (fun vs H Q E h => ?_) (fun cdv A outer s H vs Q E hr h => ?_)
  · obtain ⟨s, rfl, _⟩ := h
    rfl
  · obtain ⟨⟨fi, la⟩, rfl, ⟨s1, s2⟩, k⟩ := h
    refine ⟨_, (pss_cons (ps_if (pt_cmpR op_isN (pv 1) pe_non (nomark _)) (pss_one (ps_ret (pe_joined (PJ.cons pe_str (PJ.cons (pe_fmt (pv 0)) PJ.nil))))) pss_nil)
      (pss_cons (ps_if (pt_cmpR op_eq (pv 0) (pv 1) (nomark _)) (pss_one (ps_ret (pe_callTy call_str_int (by rfl) T.str_ (by decide +kernel) (pa_cons (pv 0) pa_nil)))) pss_nil)
      (pss_one (ps_ret (pe_joined (PJ.cons (pe_fmt (pv 0)) (PJ.cons pe_str (PJ.cons (pe_fmt (pv 1)) PJ.nil)))))))), ?_⟩
    have lf : fi.natAbs.log2 < 1920 := Nat.lt_trans (log_sm (by decide) s1) (by decide)
    cases la with
    | none =>
      have o1 : OkT 5 (Str.empty ++ Str.ofString "from ") := by
        rw [Str.empty_append]
        exact OkT.of "from "
      have o2 := o1.app (ts_ok s1)
      refine ⟨_, rfl, rfl, true, rfl, iteT ?_⟩
      refine ⟨_, rfl, o1.fits, _, rfl, .inr ⟨_, rfl, lf, _, rfl, o2.fits, ?_⟩⟩
      show Q (.str ((Str.empty ++ Str.ofString "from ") ++ ts fi)) H
      rw [Str.empty_append]
      exact k
    | some l =>
      have s3 : Sm 200 l := s2 l rfl
      have ll : l.natAbs.log2 < 1920 := Nat.lt_trans (log_sm (by decide) s3) (by decide)
      refine ⟨_, rfl, rfl, false, rfl, iteF ?_⟩
      have kk : Q (.str (if fi = l then ts fi else ts fi ++ Str.ofString " to " ++ ts l)) H := k
      refine ⟨_, rfl, _, rfl, rfl, _, rfl, ite2 (fun e => ?_) (fun e => ?_)⟩
      · rw [if_pos (V.int.inj (of_decide_eq_true e))] at kk
        exact ⟨_, rfl, _, rfl, lf, kk⟩
      · rw [if_neg (fun z => e (decide_eq_true (congrArg V.int z)))] at kk
        have o1 : OkT 300 (Str.empty ++ ts fi) := by
          rw [Str.empty_append]
          exact (ts_ok s1).mono (by decide)
        have o2 := o1.app (OkT.of " to ")
        have o3 := o2.app (ts_ok s3)
        refine ⟨_, rfl, .inr ⟨_, rfl, lf, _, rfl, o1.fits, _, rfl, o2.fits, _, rfl, .inr ⟨_, rfl, ll, _, rfl, o3.fits, ?_⟩⟩⟩
        show Q (.str (((Str.empty ++ ts fi) ++ Str.ofString " to ") ++ ts l)) H
        rw [Str.empty_append]
        exact kk
end
end RL

set_option maxHeartbeats 2000000
/-! An own exception class called with arguments by position and by keyword, its __init__ a def. -/
namespace PySem
namespace RLX
open PySem.W PySem.Calls PyProof.Rows PySem.HandSPX
section
variable {prog : Program} {w : World} {M : Model} {A : Around} {E : Value → Shared → Prop} {R : Result → Shared → Prop} {h : Heap} {g : Array GenState} {d : Drawn} {t : Nat} {os : OsState}
variable {nm q : Str} {C N : Addr} {bs bm bmB : List Value} {hdct : Bool} {sn : List Str} {sub : List Value} {ab : Bool} {col : Option Bool} {dd : Option Addr} {k0 k1 k2 k3 k5 : Option Value} {B newId initId : String}
/-- the check ahead of the making -/
theorem chk_new (F : ExcBaseFacts B newId initId bmB) (hT : ∀ X : String, bm.contains (.type X) = bmB.contains (.type X)) {rest : List Value} {kw : List (Str × Value)} {Q : Unit → Shared → Prop}
    (hC : h.get? C = some (excClassObj nm q C N bs bm hdct sn sub ab col dd k0 k1 k2 k3 k5 newId)) (hq : Q () ⟨h, g, d, t, os⟩) : wpAny M A (checkBuiltinCall newId ⟨.ref C :: rest, kw⟩) Q E ⟨h, g, d, t, os⟩ := by
  have yB : (Value.ref C :: bm).contains (.type B) = true := by
    rw [List.contains_cons, hT, F.hasB, Bool.or_true]
  have st := F.noStar
  simp only [checkBuiltinCall, F.newKind, F.newSplit, F.newRow]
  repeat (first
    | refine wpAny_loadPart_at hC ?_
    | (refine wpAny_isSubtype_exc hC ?_; rw [yB])
    | refine wpAny_staticBase_exc hC ?_
    | refine wpAny_madeBy_exc hC ?_
    | simp only [bne_self_eq_false, Bool.false_eq_true, if_false]
    | wp_step)
  exact hq
/-- what the making lays: the arguments' tuple, the exception behind it -/
abbrev laid2 (C : Addr) (rest : List Value) (h : Heap) : Heap := (h.push (W.kdv_tup rest)).push (excO C h.objs.size)
theorem run_new (F : ExcBaseFacts B newId initId bmB) (hT : ∀ X : String, bm.contains (.type X) = bmB.contains (.type X)) {rest : List Value} {kw : List (Str × Value)}
    (hC : h.get? C = some (excClassObj nm q C N bs bm hdct sn sub ab col dd k0 k1 k2 k3 k5 newId))
    (hq : R (.ok (.ret (.ref (h.objs.size + 1)))) ⟨laid2 C rest h, g, d, t, os⟩) (hz : rest.length ≤ sizeLine) :
    codeAny (model prog w) A (.builtin newId ⟨.ref C :: rest, kw⟩) R ⟨h, g, d, t, os⟩ := by
  have en := F.ends
  have yB : (Value.ref C :: bm).contains (.type B) = true := by
    rw [List.contains_cons, hT, F.hasB, Bool.or_true]
  have yA : (Value.ref C :: bm).contains (.type "AttributeError") = false := by
    rw [List.contains_cons, hT, F.noAttr]
    rfl
  have yN : (Value.ref C :: bm).contains (.type "NameError") = false := by
    rw [List.contains_cons, hT, F.noName]
    rfl
  refine codeAny_builtinAt F.entry ?_
  unfold Builtin.«BaseException.__new__»
  refine wpAt_bind ?_
  show wpAt _ _ _ (stack >>= _) _ _ _
  refine wpAt_bind (wpAt_stack fun p below => wpAt_of_wpAny ?_)
  wp_walk
  refine wpAt_of_wpAny ?_
  rw [F.owner]
  repeat (first
    | with_reducible refine wpAny_madeHere_exc F.canon hC ?_
    | with_reducible refine wpAny_loadPart_at hC ?_
    | (with_reducible refine wpAny_isSubtype_exc hC ?_; first | rw [yB] | rw [yA] | rw [yN])
    | wp_step)
  show R _ _
  rw [Heap.size_push]
  exact hq
theorem run_typeCall (F : ExcBaseFacts B newId initId bmB) (hT : ∀ X : String, bm.contains (.type X) = bmB.contains (.type X)) {rest : List Value} {kw : List (Str × Value)} {fI : Addr} {Q : Fin → Shared → Prop}
    (hC : h.get? C = some (excClassObj nm q C N bs bm hdct sn sub ab col dd k0 k1 k2 k3 k5 newId))
    (hi : W.Looks (model prog w) h (typeLookup (.ref C) "__init__") (some (.ref fI))) (hb : ∀ self, W.Looks (model prog w) h (bindSpecial (.ref fI) self) (.ref fI, [self])) (hz : rest.length ≤ sizeLine)
    (hq : codeAny (model prog w) A (.call (.ref fI) ⟨.ref (h.objs.size + 1) :: rest, kw⟩)
      (fun r s' => match r with | .ok (.ret v) => v = .none ∧ Q (.done (.ret (.ref (h.objs.size + 1)))) s' | .ok _ => False | .error e => E e s')
      ⟨laid2 C rest h, g, d, t, os⟩) :
    wpAny (model prog w) A (Builtin.«type.__call__» ⟨.ref C :: rest, kw⟩) Q E ⟨h, g, d, t, os⟩ := by
  repeat (first
    | with_reducible refine wpAny_loadPart_at hC ?_
    | with_reducible refine wpAny_madeBy_exc hC ?_
    | wp_step)
  refine codeAny_call_builtin_code (Code.quiet_builtin _ F.quiet) (chk_new F hT hC (run_new F hT hC ?_ hz))
  show wpAny _ _ _ _ _ _
  have kp : ∀ b o, h.get? b = some o → (laid2 C rest h).get? b = some o := fun b o e => Heap.get?_push_of_some _ (Heap.get?_push_of_some _ e)
  have hC1 := kp _ _ hC
  have hget : (laid2 C rest h).get? (h.objs.size + 1) = some (excO C h.objs.size) := by heap_get
  have yC : (Value.ref C :: bm).contains (.ref C) = true := by simp
  have i1 := hi.keeps kp
  have b1 := (hb (.ref (h.objs.size + 1))).keeps kp
  unfold isInstance
  repeat (first
    | with_reducible refine wpAny_loadPart_at hget ?_
    | (with_reducible refine wpAny_isSubtype_exc hC1 ?_; rw [yC])
    | wp_step)
  show wpAny _ _ (typeLookup (.ref C) _) _ _ _
  refine i1.at (wpAny_holding (wpAny_bind (b1.at (wpAny_bind (wpAny_call (codeAny_mono hq fun r s' z => ?_))))))
  rcases r with e | (v | _ | _ | _) <;> first | exact z | exact z.elim | skip
  obtain ⟨rfl, z⟩ := z
  first
    | exact wpAny_pure (wpAny_pure z)
    | (wp_walk; exact z)
theorem chk_typeCall {rest : List Value} {kw : List (Str × Value)} {Q : Unit → Shared → Prop} (hC : h.get? C = some (excClassObj nm q C N bs bm hdct sn sub ab col dd k0 k1 k2 k3 k5 newId))
    (hq : Q () ⟨h, g, d, t, os⟩) : wpAny M A (checkBuiltinCall "type.__call__" ⟨.ref C :: rest, kw⟩) Q E ⟨h, g, d, t, os⟩ := by
  have f3 := tc_sub
  have ty : (⟨h, g, d, t, os⟩ : Shared).TypeIs (.ref C) "type" := ⟨_, hC, rfl⟩
  simp only [checkBuiltinCall, tc_kind, tc_split]
  repeat (any_goals (first
    | assumption
    | with_reducible refine wpAny_loadPart_at hC ?_
    | with_reducible refine wpAny_onRaise ?_
    | with_reducible refine wpAny_map ?_
    | wp_step))
/-- C(.., k = v, ..) -/
theorem run_make (F : ExcBaseFacts B newId initId bmB) (hT : ∀ X : String, bm.contains (.type X) = bmB.contains (.type X)) {rest : List Value} {kw : List (Str × Value)} {fI : Addr}
    (hC : h.get? C = some (excClassObj nm q C N bs bm hdct sn sub ab col dd k0 k1 k2 k3 k5 newId))
    (hi : W.Looks (model prog w) h (typeLookup (.ref C) "__init__") (some (.ref fI))) (hb : ∀ self, W.Looks (model prog w) h (bindSpecial (.ref fI) self) (.ref fI, [self])) (hz : rest.length ≤ sizeLine)
    (hq : codeAny (model prog w) (A.under (.builtin "type.__call__" ⟨.ref C :: rest, kw⟩)) (.call (.ref fI) ⟨.ref (h.objs.size + 1) :: rest, kw⟩) (W.InitBack (h.objs.size + 1) R) ⟨laid2 C rest h, g, d, t, os⟩) :
    codeAny (model prog w) A (.call (.ref C) ⟨rest, kw⟩) R ⟨h, g, d, t, os⟩ := by
  have f1 := tc_lookup
  have f2 := tc_bind (.ref C)
  have ty : (⟨h, g, d, t, os⟩ : Shared).TypeIs (.ref C) "type" := ⟨_, hC, rfl⟩
  refine codeAny_of_tree ?_
  show wpAny _ _ (callAny (.ref C) _) _ _ _
  repeat (any_goals (first
    | assumption
    | with_reducible refine wpAny_loadPart_at hC ?_
    | wp_step))
  refine ⟨rfl, ?_⟩
  refine codeAny_call_builtin_at (Code.quiet_builtin _ (by decide +kernel)) entry_typeCall (chk_typeCall hC (run_typeCall F hT hC hi hb hz (codeAny_mono hq fun r s' z => ?_)))
  rcases r with e | (v | _ | _ | _) <;> exact z
end
end RLX
end PySem

set_option maxHeartbeats 2000000
/-! Own exceptions held as values: made (by position, by keyword), stored into, read, asked for their class. -/
namespace RL
open PySem L2 PySem.Spec PyProof.Rows Builtin Builtin.ObjectAttr
/-- what the class at C says: an own exception class, its __init__ a def -/
def xcB (K : PySem.W.Frag) (C : Addr) (bmB : List Value) (nid : String) : Bool :=
  PySem.W.excInitIn K C bmB nid && PySem.W.excOver K C bmB && PySem.W.hasDictIn K C && PySem.W.keepIn K (.ref C) && (PySem.W.clsIn K C).isSome &&
  decide (PySem.W.findIn K (.ref C) "__setattr__" = some (some (.builtin "object.__setattr__"))) &&
  decide (PySem.W.findIn K (.ref C) "__getattribute__" = some (some (.builtin "BaseException.__getattribute__"))) &&
  decide (PySem.W.findIn K (.ref C) "__getattr__" = some none) &&
  decide (PySem.W.findIn K (.ref C) "__class__" = some (some (.builtin "object.__class__"))) &&
  decide (PySem.W.subIn K (.ref C) (.type "BaseException") = some true) && decide (PySem.W.mroIn K C (.type "object") = some true) &&
  decide (PySem.W.findIn K (.ref C) "given" = some none) && decide (PySem.W.findIn K (.ref C) "index" = some none) && decide (PySem.W.findIn K (.ref C) "most" = some none)
structure XC (K : PySem.W.Frag) (C : Addr) : Prop where
  base : ∃ (B nid iid : String) (bmB : List Value), ExcBaseFacts B nid iid bmB ∧ StoreFacts B bmB "object.__setattr__" "object" ∧ PySem.W.excInitIn K C bmB nid = true ∧ PySem.W.excOver K C bmB = true
  hd : PySem.W.hasDictIn K C = true
  kp : PySem.W.keepIn K (.ref C) = true
  cl : (PySem.W.clsIn K C).isSome = true
  sa : PySem.W.findIn K (.ref C) "__setattr__" = some (some (.builtin "object.__setattr__"))
  ga : PySem.W.findIn K (.ref C) "__getattribute__" = some (some (.builtin "BaseException.__getattribute__"))
  gg : PySem.W.findIn K (.ref C) "__getattr__" = some none
  ca : PySem.W.findIn K (.ref C) "__class__" = some (some (.builtin "object.__class__"))
  sub : PySem.W.subIn K (.ref C) (.type "BaseException") = some true
  mo : PySem.W.mroIn K C (.type "object") = some true
  n1 : PySem.W.findIn K (.ref C) "given" = some none
  n2 : PySem.W.findIn K (.ref C) "index" = some none
  n3 : PySem.W.findIn K (.ref C) "most" = some none
theorem xcB_ok {K : PySem.W.Frag} {C : Addr} {bmB : List Value} {B nid iid : String} (F : ExcBaseFacts B nid iid bmB) (S : StoreFacts B bmB "object.__setattr__" "object") (h : xcB K C bmB nid = true) : XC K C := by
  unfold xcB at h
  simp only [Bool.and_eq_true, decide_eq_true_eq] at h
  obtain ⟨⟨⟨⟨⟨⟨⟨⟨⟨⟨⟨⟨⟨h1, h2⟩, h3⟩, h4⟩, h5⟩, h6⟩, h7⟩, h8⟩, h9⟩, h10⟩, h11⟩, h12⟩, h13⟩, h14⟩ := h
  exact ⟨⟨B, nid, iid, bmB, F, S, h1, h2⟩, h3, h4, h5, h6, h7, h8, h9, h10, h11, h12, h13, h14⟩
/-- the row that isinstance asks of object.__class__ -/
structure XK0 (K : PySem.W.Frag) : Prop where
  cn : PySem.W.specialIn K (.builtin "object.__class__") "__get__" = some (some (.builtin "getset_descriptor.__get__"))
  ct : PySem.W.takesIn K (.builtin "object.__class__") = some true
section
variable {prog : Program} {w : World} {A : Around} {R : Result → Shared → Prop} {hp : Heap} {g : Array GenState} {d : Drawn} {t : Nat} {os : OsState} {B : String} {bmB : List Value} {C : Addr}
theorem x_store {K : PySem.W.Frag} {name : Str} {tk : Tok} {v : Value} {x t1 : Addr} (SF : StoreFacts B bmB "object.__setattr__" "object") (X : K.In hp) (hx : hp.get? x = some (PySem.HandSPX.excO C t1))
    (ov : PySem.W.excOver K C bmB = true) (hh : PySem.W.hasDictIn K C = true) (ha : PySem.W.findIn K (.ref C) name = some none)
    (hq : ∀ h' tk' dx, (∀ b o, b ≠ x → hp.get? b = some o → h'.get? b = some o) → hp.objs.size ≤ dx → dx ≠ x → h'.get? x = some { PySem.HandSPX.excO C t1 with dict := some dx } →
      h'.Ns1 dx (fun y => if y = name then some v else none) → R (.ok (.ret .none)) ⟨h', g, d, tk', os⟩) :
    codeAny (model prog w) A (.call (.builtin "object.__setattr__") ⟨[.ref x, .str name tk, v], []⟩) R ⟨hp, g, d, t, os⟩ := by
  have tkr : PySem.W.takerIn K C name = some none := by
    unfold PySem.W.takerIn
    rw [ha]
    rfl
  obtain ⟨cd, hc, hd'⟩ := PySem.W.any_some hh
  have hxs : x ≠ hp.objs.size := Nat.ne_of_lt (Heap.lt_size hx)
  refine PySem.W.osa_openX (od := none) SF X ⟨hx, rfl, rfl, trivial⟩ ov tkr fun b => ?_
  refine wpAny_bind (wpAny_pure (wpAny_bind (PySem.W.instanceDict_exc (t := t1) (c2 := .none) hx (PySem.W.looks_clsIn X hc) hd' ?_)))
  show wpAny _ _ (storeInDict hp.objs.size (.str name tk) name v) _ _ _
  refine PySem.HandSPX.store_in_new ?_ ?_
  · exact ⟨_, #[], _, (Heap.get?_update_ne _ _ _ _ hxs.symm).trans (Heap.get?_push_at rfl rfl), rfl, fun e he => absurd he (by simp), fun _ => rfl⟩
  · intro h' tk' hn' hs
    have hx1 : (hp.push (PySem.W.dictOf [] 0)).get? x = some (PySem.HandSPX.excO C t1) := Heap.get?_push_of_some _ hx
    refine hq h' tk' hp.objs.size (fun b o hb ho => ?_) (Nat.le_refl _) hxs.symm ?_ hn'
    · exact (hs.2 b (Nat.ne_of_lt (Heap.lt_size ho))).trans ((Heap.get?_update_ne _ _ _ _ hb).trans (Heap.get?_push_of_some _ ho))
    · exact (hs.2 x hxs).trans (Heap.get?_update_self _ hx1 rfl)
end
section
variable {X : Cx} {pins : List (Addr × Obj)} {σ : L2.St} {H : Hp} {s : Shared} {a C dx : Addr} {f : Str} {y : V} {u : Value} {Q : Unit → Shared → Prop} {E : Value → Shared → Prop} {A : Around}
/-- self.f = y, the first one -/
theorem x_set (T : XC X.K C) (I : Inv X pins σ H s) (e : H a = some (exo a C none)) (hno : PySem.W.findIn X.K (.ref C) f = some none) (ry : RelV y u)
    (h : ∀ dx s', H dx = none → dx ≠ a → Inv X pins σ (upd (upd H dx (exd dx [(f, y)])) a (exo a C (some dx))) s' → Q () s') : wpAny (model X.prog X.w) A (setAttr (.ref a) f u) Q E s := by
  obtain ⟨B, nid, iid, bmB, FB, SF, _, ov⟩ := T.base
  obtain ⟨t1, ho⟩ := exo_at I.hok e
  obtain ⟨hp, g, d, t, os⟩ := s
  refine PySem.W.set_plain I.kIn (ox := PySem.HandSPX.excO C t1) (od := none) ⟨ho, rfl, rfl, trivial⟩ T.sa ?_
  refine x_store SF I.kIn ho ov T.hd hno (fun h' tk' dx k dn dne hx hn => ?_)
  have hnd : H dx = none := I.hok.fresh dn
  have nd : ∀ {b : Addr} {o : Obj}, hp.get? b = some o → b ≠ dx := fun {b o} q z => absurd (Heap.lt_size q) (by rw [z]; exact Nat.not_lt.mpr dn)
  have na : ∀ {b : Addr}, H b = none → b ≠ a := fun {b} n z => by
    rw [z, e] at n
    cases n
  have there : ∀ b o, hp.get? b = some o → ∃ o', h'.get? b = some o' := fun b o q => by
    by_cases hb : b = a
    · exact ⟨_, by rw [hb]; exact hx⟩
    · exact ⟨o, k b o hb q⟩
  refine h dx _ hnd dne (I.un (t' := tk') (Un.mk (fun b o q n _ _ => k b o (na n) q) (fun b o q n _ _ => ⟨o.slots, k b o (na n) q⟩) (fun b o q n _ => by rw [upd_ne (na n), upd_ne (nd q)]; exact n) (fun b o q _ => there b o q)
    (fun b xs q => by rw [upd_ne (at_ne e q exo_tup), upd_ne (ne_of_none q hnd)]; exact q) (fun b o v q => by rw [upd_ne (at_ne e q exo_frz), upd_ne (ne_of_none q hnd)]; exact q)
    (fun b ps q => ⟨#[], by rw [upd_ne (at_ne e q exo_tbl), upd_ne (ne_of_none q hnd), q]; simp⟩)) fun b o q => ?_)
  by_cases hb : b = a
  · rw [hb, upd_same] at q
    cases q
    rw [hb]
    exact exo_ok hx
  rw [upd_ne hb] at q
  by_cases hd : b = dx
  · rw [hd, upd_same] at q
    cases q
    rw [hd]
    exact exd_ok hn (relO_put (fs := []) ry fun g => True.intro)
  rw [upd_ne hd] at q
  refine (I.hok b o q).stay (fun c v hc z => k c v ?_ z) (fun c hc => ?_) (fun c xs hc => ?_)
  · rcases hc with hc | hc
    · rw [hc]
      exact hb
    · exact at_ne e hc exo_own
  · rw [upd_ne (at_ne e hc exo_own), upd_ne (ne_of_none hc hnd)]
    exact hc
  · rw [upd_ne (at_ne e hc exo_tup), upd_ne (ne_of_none hc hnd)]
    exact hc
end
/-- self.f = e -/
def tXst (K : PySem.W.Frag) (f : Str) (to te : TE) : TS := fun D σ H => te σ H fun y H1 => to σ H1 fun x H2 => ∃ a C : Addr, x = .ref a ∧ XC K C ∧ PySem.W.findIn K (.ref C) f = some none ∧ H2 a = some (exo a C none) ∧
  ∀ dx, H2 dx = none → dx ≠ a → D.nx σ (upd (upd H2 dx (exd dx [(f, y)])) a (exo a C (some dx)))
section
variable {X : Cx} {o e : Expr} {es : List Expr} {to te : TE} {ta tk : TA} {f : Str} {p p' p1 p2 pos : Pos}
theorem ps_xst (ho : PE X o to) (he : PE X e te) (hs : swapsWith e (some (.Attribute o f p')) pos.line X.env = pure false := by rfl) : PS X (.Assign [.Attribute o f p'] e pos) (tXst X.K f to te) := by
  refine ⟨fun pins s σ H D I h => plainObj_wpAny_Assign_Attribute (thn (he.run pins s σ H _ I h) fun v s1 ⟨y, H1, I1, r1, q1⟩ => thn (ho.run pins s1 σ H1 _ I1 q1) fun u s2 ⟨x, H2, I2, r2, a, C, ex, T, hno, ea, q⟩ => ?_) hs⟩
  subst ex
  cases (show u = Value.ref a from r2)
  exact x_set T I2 ea hno r1 fun dx s' n ne J => ⟨σ, _, J, q dx n ne⟩
/-- Base.m(e, ..), m a def of the class at C -/
theorem pe_xbase {C g : Addr} {mc : Value} {fd : FuncData} {ps : List Str} {sp : Sp} {k : Nat} {x m : Str} {pl : Sem Bool} (gC : X.mg x = some (.ref C)) (hg : Gl X x) (r : ClX.CRead X.K C mc) (hf : PySem.W.findCls X.K (.ref C) mc m = some (.val (.ref g)))
    (kp : PySem.W.keepIn X.K (.ref g) = true) (F : FnOk X.prog X.w X.K X.mg X.base CX0 k g fd ps sp) (hr : Room k X.A) (hb : Binds X.K fd ps []) (ha : PA X (e :: es) ta)
    (hc : eval (.Call (.Attribute (.Name x p1) m p2) (e :: es) [] pos) X.env = (do
      let ov ← eval (.Name x p1) X.env
      standAt p2.atName
      let (f, first) ← holding [ov] (getMethod ov m pl)
      callWith pos f first (backTo pos (starEach (e :: es) X.env)) (backToKw pos (keywordEach [] X.env))) := by rfl)
    (hdb : (x == ("__debug__" : Str)) = false := by decide) (he : starEach (e :: es) X.env = (false, eval e X.env) :: starEach es X.env := by rfl) (hpl : (backTo pos (starEach es X.env)).any (·.1) = false := by rfl) :
    PE X (.Call (.Attribute (.Name x p1) m p2) (e :: es) [] pos) (tCall sp [] E0 ta) := by
  refine ⟨fun pins s σ H Q I h => PySem.W.methodCall_KW (ld_glob I hg gC (PySem.W.method_cls I.kIn r.ga (ClX.getcval_ok (v := .ref g) I r ⟨hf, rfl⟩ fun s0 I0 => ?_)) hdb) hc⟩
  refine PySem.W.callWith_K (h₀ := X.base) I0.ok.mod.kin kp (thn (ha.run pos pins s0 σ H _ I0 h) fun us s1 ⟨vs, H1, I1, r1, q⟩ => ⟨I1.kIn, ?_⟩) he hpl
  exact run_fn F hr hb .nil pass0 I1 r1 q
/-- C(e, .., k = v, ..): a new exception without a dict, then __init__ -/
def tXmk (C : Addr) (n m : Nat) (sp : Sp) (gV : List V → List V → List V) (t tk : TA) : TE := fun σ H Q => t σ H fun vs H1 => tk σ H1 fun zs H2 => vs.length = n ∧ zs.length = m ∧
  ∀ a, H2 a = none → sp (gV (.ref a :: vs) zs) (upd H2 a (exo a C none)) (fun v H3 => v = .non ∧ Q (.ref a) H3) E0
/-- the class at C and its __init__ -/
structure XM (P : Program) (w : World) (K : PySem.W.Frag) (mg : Str → Option Value) (base : Heap) (k : Nat) (C : Addr) (ps : List Str) (sp : Sp) : Prop where
  xc : XC K C
  ex : ∃ (g : Addr) (fd : FuncData), PySem.W.findIn K (.ref C) "__init__" = some (some (.ref g)) ∧ PySem.W.isFn K (.ref g) = true ∧ FnOk P w K mg base CX0 k g fd ps sp ∧ Binds K fd ps [] ∧
    ∀ y z, ps = [y, z] → KBn K fd ps 1 [z] (fun us ws => us ++ ws) (fun vs zs => vs ++ zs)
theorem run_xmk {k n : Nat} {C g : Addr} {fd : FuncData} {ps ks : List Str} {sp : Sp} {gU : List Value → List Value → List Value} {gV : List V → List V → List V} {pins : List (Addr × Obj)} {σ : L2.St} {H : Hp} {s : Shared} {Q : VK} {us ws : List Value} {vs zs : List V}
    (T : XC X.K C) (iC : PySem.W.findIn X.K (.ref C) "__init__" = some (some (.ref g))) (tI : PySem.W.isFn X.K (.ref g) = true) (F : FnOk X.prog X.w X.K X.mg X.base CX0 k g fd ps sp) (hr : Room (k + 1) X.A) (hb : KBn X.K fd ps (n + 1) ks gU gV)
    (I : Inv X pins σ H s) (r : Vals vs us) (rz : Vals zs ws) (l1 : vs.length = n) (l2 : zs.length = ks.length) (ln : n ≤ 1000)
    (h : ∀ a, H a = none → sp (gV (.ref a :: vs) zs) (upd H a (exo a C none)) (fun v H2 => v = .non ∧ Q (.ref a) H2) E0) :
    wpAny (model X.prog X.w) X.A (call (.ref C) us (ks.zip ws)) (EP X pins σ Q) X.xe s := by
  obtain ⟨B, nid, iid, bmB, FB, SF, q, ov⟩ := T.base
  obtain ⟨nm, N', qn, bs, bm, hdct, sn, sub, ab, col, dd, k0, k1, k2, k3, k5, hC, hT⟩ := PySem.W.excInit_of I.kIn q
  have bf : ∀ self, PySem.W.Looks (model X.prog X.w) s.heap (bindSpecial (.ref g) self) (.ref g, [self]) := fun self => PySem.W.bind_fn I.kIn self (beq_iff_eq.mp tI)
  have li := PySem.W.looks_findIn (M := model X.prog X.w) I.kIn iC
  obtain ⟨hp, gs, dr, tk, os⟩ := s
  have hq := h (hp.objs.size + 1) (I.hok.fresh (Nat.le_succ _))
  have kk : ∀ b o, hp.get? b = some o → (PySem.RLX.laid2 C us hp).get? b = some o := fun b o e => Heap.get?_push_of_some _ (Heap.get?_push_of_some _ e)
  have hget : (PySem.RLX.laid2 C us hp).get? (hp.objs.size + 1) = some (PySem.HandSPX.excO C hp.objs.size) := by heap_get
  have I2 : Inv X pins σ (upd H (hp.objs.size + 1) (exo (hp.objs.size + 1) C none)) ⟨PySem.RLX.laid2 C us hp, gs, dr, tk, os⟩ :=
    I.laid (t' := tk) (a := hp.objs.size + 1) (o := exo (hp.objs.size + 1) C none) (h' := PySem.RLX.laid2 C us hp) kk (Nat.le_succ _) (exo_ok hget)
  have r1 : Vals (V.ref (hp.objs.size + 1) :: vs) (Value.ref (hp.objs.size + 1) :: us) := .cons rfl r
  have n1 : (Value.ref (hp.objs.size + 1) :: us).length = n + 1 := by rw [List.length_cons, ← r.length, l1]
  have hz : us.length ≤ sizeLine := by
    rw [← r.length, sizeLine_eq]
    omega
  refine wpAny_call (PySem.RLX.run_make FB hT hC li bf hz (codeAny_mono (F.run _ X.stack _ _ ⟨Value.ref (hp.objs.size + 1) :: us, ks.zip ws⟩ (gU (Value.ref (hp.objs.size + 1) :: us) ws) _ _ E0 (hr.make C us (ks.zip ws))
    (I2.env0.make C us (ks.zip ws)) (hb.to _ (Value.ref (hp.objs.size + 1) :: us) ws I2.kIn n1 (rz.length.symm.trans l2)) (hb.rel r1 rz) hq) fun r s' z => ?_))
  cases r with
  | error e => exact z.elim
  | ok fl =>
    cases fl with
    | ret u =>
      obtain ⟨v, H', I3, rv, ev, q3⟩ := I2.after z
      subst ev
      exact ⟨rv, ⟨V.ref (hp.objs.size + 1), H', I3, rfl, q3⟩⟩
    | next => exact z.elim
    | brk => exact z.elim
    | cont => exact z.elim
theorem kbn_of {K : PySem.W.Frag} {fd : FuncData} {ps : List Str} {n : Nat} (hb : Binds K fd ps []) (hl : ps.length = n) : KBn K fd ps n [] (fun us _ => us) (fun vs _ => vs) :=
  ⟨fun s us ws hK l1 l2 => by
    have e := hb s us hK (by rw [List.append_nil, l1, hl])
    rw [List.append_nil] at e
    exact e, fun r _ => r⟩
/-- C(k = v) -/
theorem pe_xmkK {C : Addr} {k : Nat} {x y z : Str} {sp : Sp} {kws : List Keyword} (M : XM X.prog X.w X.K X.mg X.base k C [y, z] sp) (hr : Room (k + 1) X.A) (hg : Gl X x) (hm : X.mg x = some (.ref C)) (hkw : PK X kws tk)
    (hall : (backToKw pos (keywordEach kws X.env)).all (·.1.isSome) = true := by rfl) (hks : (backToKw pos (keywordEach kws X.env)).filterMap (·.1) = [z] := by rfl) (hdb : (x == ("__debug__" : Str)) = false := by decide)
    (hpl : ((backTo pos (starEach [] X.env)).any (·.1) || (backToKw pos (keywordEach kws X.env)).any (·.1.isNone)) = false := by rfl) :
    PE X (.Call (.Name x p) [] kws pos) (tXmk C 0 1 sp (fun vs zs => vs ++ zs) tNil tk) := by
  obtain ⟨g, fd, iC, tI, F, _, hK⟩ := M.ex
  refine ⟨fun pins s σ H Q I h => wpAny_Call_Name_kw (ld_glob I hg hm (PySem.W.callWith_KW0 (h₀ := X.base) I.ok.mod.kin M.xc.kp hall ?_ hpl) hdb)⟩
  refine thn (hkw.run pos pins s σ H _ I h) fun ws s2 ⟨zs, H2, I2, rz, l1, l2, q2⟩ => ⟨I2.kIn, ?_⟩
  rw [hks]
  exact run_xmk (us := []) (vs := []) M.xc iC tI F hr (hK y z rfl) I2 .nil rz rfl l2 (by decide) q2
/-- C(e, ..) -/
theorem pe_xmk {C : Addr} {k : Nat} {x : Str} {sp : Sp} {ps : List Str} (M : XM X.prog X.w X.K X.mg X.base k C ps sp) (hr : Room (k + 1) X.A) (hg : Gl X x) (hm : X.mg x = some (.ref C)) (ha : PA X (e :: es) ta) (hn : ps.length = (e :: es).length + 1) (hn2 : (e :: es).length ≤ 1000)
    (hdb : (x == ("__debug__" : Str)) = false := by decide) (he : starEach (e :: es) X.env = (false, eval e X.env) :: starEach es X.env := by rfl) (hpl : (backTo pos (starEach es X.env)).any (·.1) = false := by rfl) :
    PE X (.Call (.Name x p) (e :: es) [] pos) (tXmk C (e :: es).length 0 sp (fun vs _ => vs) ta tNil) := by
  obtain ⟨g, fd, iC, tI, F, hb, _⟩ := M.ex
  refine ⟨fun pins s σ H Q I h => wpAny_Call_Name_kw (ld_glob I hg hm (PySem.W.callWith_K (h₀ := X.base) I.ok.mod.kin M.xc.kp (thn (ha.run pos pins s σ H _ I h) fun us s1 ⟨vs, H1, I1, r, l1, _, q⟩ => ⟨I1.kIn, ?_⟩) he hpl) hdb)⟩
  exact run_xmk (ks := []) (ws := []) (zs := []) M.xc iC tI F hr (kbn_of hb hn) I1 r .nil l1 rfl hn2 q
/-- C() -/
theorem pe_xmk0 {C : Addr} {k : Nat} {x : Str} {sp : Sp} {y : Str} (M : XM X.prog X.w X.K X.mg X.base k C [y] sp) (hr : Room (k + 1) X.A) (hg : Gl X x) (hm : X.mg x = some (.ref C))
    (hdb : (x == ("__debug__" : Str)) = false := by decide) :
    PE X (.Call (.Name x p) [] [] pos) (tXmk C 0 0 sp (fun vs _ => vs) tNil tNil) := by
  obtain ⟨g, fd, iC, tI, F, hb, _⟩ := M.ex
  refine ⟨fun pins s σ H Q I h => wpAny_Call_Name_kw (ld_glob I hg hm (PySem.W.callWith_K0 I.kIn M.xc.kp ?_) hdb)⟩
  obtain ⟨_, _, q⟩ := h
  exact run_xmk (us := []) (vs := []) (ks := []) (ws := []) (zs := []) M.xc iC tI F hr (kbn_of hb rfl) I .nil .nil rfl rfl (by decide) q
/-! ### asked and read -/
/-- an exception of the class at C -/
def Exo (H : Hp) (a C : Addr) : Prop := H a = some (exo a C none) ∨ ∃ (dx : Addr) (fs : List (Str × V)), H a = some (exo a C (some dx)) ∧ H dx = some (exd dx fs)
def rIsX (K : PySem.W.Frag) : List V → Hp → VK → Prop := fun xs H Q => ∃ (a C : Addr) (c : V) (u : Value) (b : Bool), xs = [.ref a, c] ∧ ClsV c u ∧ XC K C ∧ Exo H a C ∧ PySem.W.kitOne K (.ref C) u = some b ∧ Q (.bl b) H
theorem call_isX (Z : XK0 X.K) : CallR X (.builtin "isinstance") (rIsX X.K) := by
  intro pins s σ H xs us Q I r h
  obtain ⟨a, C, c, u, b, rfl, kc, T, hx, e, q⟩ := h
  obtain ⟨u1, u2, rfl, r1, r2⟩ := vals2 r
  have e2 := kc.eq r2
  subst e2
  cases (show u1 = Value.ref a from r1)
  have key : ∃ ox od, PySem.W.InstAt s.heap a ox C od := by
    rcases hx with hx | ⟨dx, fs, hx, hd⟩
    · obtain ⟨t1, ho⟩ := exo_at I.hok hx
      exact ⟨_, none, ho, rfl, rfl, trivial⟩
    · obtain ⟨t1, ho⟩ := exo_at I.hok hx
      obtain ⟨mA, ⟨od, es, ep, hod, _⟩, _⟩ := exd_at I.hok hd
      exact ⟨_, some od, ho, rfl, rfl, hod⟩
  obtain ⟨ox, od, J⟩ := key
  exact PySem.W.kia_one (PySem.W.kitx_exc (ox := ox) (od := od) T.cl T.ga T.gg T.sub T.ca Z.cn Z.ct T.mo) I.kIn J e (fun z => nomatch z) fun tk => ⟨.bl b, H, I.tok tk, rfl, q⟩
/-- e.f, e an exception with a dict -/
def tXfd (K : PySem.W.Frag) (f : Str) (te : TE) : TE := fun σ H Q => te σ H fun x H1 => ∃ (a C dx : Addr) (fs : List (Str × V)) (v : V), x = .ref a ∧ XC K C ∧ PySem.W.findIn K (.ref C) f = some none ∧ H1 a = some (exo a C (some dx)) ∧ H1 dx = some (exd dx fs) ∧ fs.lookup f = some v ∧ Q v H1
theorem pe_xfd {n : Str} (he : PE X e te) (hb : attributeBase e n X.env (eval e X.env) = eval e X.env := by rfl) : PE X (.Attribute e n pos) (tXfd X.K n te) := by
  refine ⟨fun pins s σ H Q I h => attr_of hb (thn (he.run pins s σ H _ I h) fun u s1 ⟨x, H1, I1, rx, a, C, dx, fs, v, ex, T, hno, ea, ed, l, q⟩ => ?_)⟩
  subst ex
  cases (show u = Value.ref a from rx)
  obtain ⟨t1, ho⟩ := exo_at I1.hok ea
  obtain ⟨mA, hns, hr⟩ := exd_at I1.hok ed
  obtain ⟨od, hod, hl⟩ := lookIn_ns hns
  obtain ⟨u, hu, ru⟩ := RelO.some_of (v := v) (o := mA n) (by rw [← l]; exact hr n)
  have J : PySem.W.InstAt s1.heap a _ C (some od) := ⟨ho, rfl, rfl, hod⟩
  exact HandSPX.exc_get I1.kIn J T.ga T.gg T.sub (PySem.W.findObj_own T.hd hno rfl (by rw [hl, hu])) (handed_of ru) ⟨v, H1, I1.tok _, ru, q⟩
end
end RL

set_option maxHeartbeats 1000000
/-! repr of plain things: None, bools, ints, texts, lists, tuples, flat dicts. -/
namespace RL
open PySem L2 PySem.Spec PyProof.Rows
def keyD : Key → PyData
  | .inl i => .int i
  | .inr x => .str x
/-- v is, by the heap, the data d: as Dp, or a dict of ints -/
inductive Dq (K : PySem.W.Frag) (H : Hp) : V → PyData → Prop
  | dp {v : V} {d : PyData} : Dp K H v d → d.hasDict = false → Dq K H v d
  | dk {a : Addr} {kvs : List (Key × Int)} : H a = some (.dK (kvs.map fun p => (p.1, V.int p.2))) → Dq K H (.ref a) (.dict (kvs.map fun p => (keyD p.1, .int p.2)))
theorem dk_reads {P : Program} {w : World} {h : Heap} : ∀ {kvs : List (Key × Int)} {vs : List (Key × Value)} {es : List DictEntry}, KV (kvs.map fun p => (p.1, V.int p.2)) vs → Pairs (mixKind P w) es vs →
    ReadsAll h (es.map (·.key)) ((kvs.map fun p => (keyD p.1, PyData.int p.2)).map (·.1)) [] ∧ ReadsAll h (es.map (·.val)) ((kvs.map fun p => (keyD p.1, PyData.int p.2)).map (·.2)) []
  | [], _, _, r, q => by
    cases r
    cases q
    exact ⟨.nil, .nil⟩
  | (k, i) :: kvs, _, _, r, q => by
    cases r with
    | cons r1 r2 =>
      cases q with
      | cons q1 q2 q3 =>
        obtain ⟨e1, e2⟩ := r1
        obtain ⟨h1, h2⟩ := dk_reads (P := P) (w := w) (h := h) r2 q3
        refine ⟨?_, ?_⟩
        · have q1' := q1
          rw [mixKind_is, ← e1] at q1'
          rcases keyIs_shape q1' with ⟨j, t, ek, ev⟩ | ⟨x, t, ek, ev⟩
          · have ek : k = _ := ek
            subst ek
            rw [List.map_cons, ev]
            exact ReadsAll.cons (Reads.int _ _) h1
          · have ek : k = _ := ek
            subst ek
            rw [List.map_cons, ev]
            exact ReadsAll.cons (Reads.str _ _) h1
        · obtain ⟨t, e2⟩ := e2
          rw [List.map_cons, q2, e2]
          exact ReadsAll.cons (Reads.int _ _) h2
section
variable {X : Cx}
def rRp (K : PySem.W.Frag) : List V → Hp → VK → Prop := fun vs H Q => ∃ (v : V) (d : PyData), vs = [v] ∧ Dq K H v d ∧ d.showable = true ∧ d.depth ≤ 40 ∧ d.shown.length ≤ sizeLine ∧ Q (.str d.shown) H
theorem cr_rp (hG : X.A.guards = some []) (hu : X.A.units + 64 < cLine) : CallR X (.builtin "repr") (rRp X.K) := by
  intro pins s σ H vs us Q I r h
  obtain ⟨v, d, rfl, hd, h1, h3, h4, q⟩ := h
  obtain ⟨u, rfl, ru⟩ : ∃ u, us = [u] ∧ RelV v u := by
    cases r with
    | cons r1 r2 =>
      cases r2
      exact ⟨_, rfl, r1⟩
  cases hd with
  | dp hp h2 =>
    cases hp with
    | non =>
      cases (show u = Value.none from ru)
      exact PySem.P.repr_of_none ⟨.str "None", H, I.tok _, ⟨_, rfl⟩, q⟩
    | bl b =>
      cases (show u = Value.bool b from ru)
      exact PySem.P.repr_of_bool ⟨.str (PyData.bool b).shown, H, I.tok _, ⟨_, rfl⟩, q⟩
    | int i =>
      obtain ⟨t, rfl⟩ := ru
      exact PySem.P.repr_of_int (of_decide_eq_true h1) ⟨.str (PyData.int i).shown, H, I.tok _, ⟨_, rfl⟩, q⟩
    | str x =>
      obtain ⟨t, rfl⟩ := ru
      exact PySem.P.repr_of_str ⟨.str (PyData.str x).shown, H, I.tok _, ⟨_, rfl⟩, q⟩ h4
    | @lst a xs ds hs ha =>
      exact cr_repr hG hu pins s σ H _ _ Q I (.cons ru .nil) ⟨a, _, rfl, .lst hs ha, h1, h2, h3, h4, q⟩
    | @tup a xs ds hs ha =>
      exact cr_repr hG hu pins s σ H _ _ Q I (.cons ru .nil) ⟨a, _, rfl, .tup hs ha, h1, h2, h3, h4, q⟩
  | @dk a kvs ha =>
    cases (show u = Value.ref a from ru)
    obtain ⟨_, hsys, vs, kv, o, es, ep, ho, hc, hdat, _, hp, _⟩ := (show ObjOk X.prog X.w H s.heap a (.dK _) from I.hok a _ ha)
    obtain ⟨g1, g2⟩ := dk_reads (h := s.heap) kv hp
    refine repr_of_reads' (h₀ := s.heap) (Reads.dict ho hc.1 hdat g1 g2) h1 (fun _ hm => ?_) hG (by omega) (fun _ _ z => z) (fun h' u tk hk => ⟨.str _, H, I.kept hk, ⟨_, rfl⟩, q⟩) h4
    have hm' : sysModules ∈ [a] := hm
    rw [List.mem_singleton] at hm'
    rw [← hm'] at hsys
    exact absurd hsys (by decide)
end
theorem sqT_same {K : PySem.W.Frag} {H H' : Hp} {a : Addr} {xs : List V} (e : ∀ b o, H b = some o → H' b = some o) (h : SqT K H a xs) : SqT K H' a xs := by
  rcases h with (h | ⟨o, h⟩) | h
  · exact .inl (.inl (e _ _ h))
  · exact .inl (.inr ⟨o, e _ _ h⟩)
  · exact .inr h
mutual
theorem dp_same {K : PySem.W.Frag} {H H' : Hp} (s : ∀ b o, H b = some o → H' b = some o) : ∀ (d : PyData) (v : V), Dp K H v d → Dp K H' v d
  | .none, _, h => by
    cases h
    exact .non
  | .bool b, _, h => by
    cases h
    exact .bl b
  | .int i, _, h => by
    cases h
    exact .int i
  | .str x, _, h => by
    cases h
    exact .str x
  | .list ds, _, h => by
    cases h with
    | lst a b => exact .lst (Same.seq s a) (dpAll_same s ds _ b)
  | .tuple ds, _, h => by
    cases h with
    | tup a b => exact .tup (sqT_same s a) (dpAll_same s ds _ b)
  | .dict _, _, h => by cases h
theorem dpAll_same {K : PySem.W.Frag} {H H' : Hp} (s : ∀ b o, H b = some o → H' b = some o) : ∀ (ds : List PyData) (vs : List V), DpAll K H vs ds → DpAll K H' vs ds
  | [], _, h => by
    cases h
    exact .nil
  | d :: ds, _, h => by
    cases h with
    | cons a b => exact .cons (dp_same s d _ a) (dpAll_same s ds _ b)
end
theorem Dq.same {K : PySem.W.Frag} {H H' : Hp} {v : V} {d : PyData} (h : Dq K H v d) (s : Same H H') : Dq K H' v d := by
  cases h with
  | dp a b => exact .dp (dp_same s _ _ a) b
  | dk a => exact .dk (s _ _ a)
end RL

set_option maxHeartbeats 1000000
/-! what repr shows of well-formed data is a well-formed text -/
namespace RL
open PySem L2 PySem.Spec PyProof.Rows PySem.Builtin.Str
def Uok (x : Str) : Prop := ∀ c ∈ x.cps.toList, c < 0x110000
theorem Uok.app {x y : Str} (h : Uok x) (k : Uok y) : Uok (x ++ y) := fun c hc => by
  have e : (x ++ y).cps.toList = x.cps.toList ++ y.cps.toList := by
    show (x.cps ++ y.cps).toList = _
    rw [Array.toList_append]
  rw [e] at hc
  exact (List.mem_append.mp hc).elim (h c) (k c)
theorem chr_lt (ch : Char) : ch.toNat < 0x110000 := by
  have h := ch.valid
  have e : ch.toNat = ch.val.toNat := rfl
  rcases h with h | h
  · have h2 : ch.val.toNat < 0xd800 := h
    omega
  · have h2 : ch.val.toNat < 0x110000 := h.2
    omega
theorem Uok.of (s : String) : Uok (Str.ofString s) := fun c hc => by
  rw [PyProof.Rows.signs_ofString] at hc
  obtain ⟨ch, _, rfl⟩ := List.mem_map.mp hc
  exact chr_lt ch
theorem Uok.join {y : Str} (hy : Uok y) : ∀ {l : List Str}, (∀ x ∈ l, Uok x) → Uok (Str.join y l)
  | [], _ => fun c hc => absurd (show c ∈ ([] : List Nat) from hc) (by simp)
  | [x], h => h x List.mem_cons_self
  | x :: z :: l, h => by
    show Uok (x ++ y ++ Str.join y (z :: l))
    exact ((h x List.mem_cons_self).app hy).app (Uok.join hy fun a ha => h a (List.mem_cons_of_mem _ ha))
theorem reprChar_lt {q c : Nat} (hc : c < 0x110000) : ∀ d ∈ reprChar q c, d < 0x110000 := by
  intro d hd
  have hx : ∀ (n : Nat), d ∈ List.replicate (n - ((Nat.toDigits 16 c).map Char.toNat).length) 48 ++ (Nat.toDigits 16 c).map Char.toNat → d < 0x110000 := fun n h => by
    rcases List.mem_append.mp h with h | h
    · rw [List.eq_of_mem_replicate h]
      omega
    · obtain ⟨ch, _, rfl⟩ := List.mem_map.mp h
      exact chr_lt ch
  unfold reprChar at hd
  split at hd
  · simp only [List.mem_cons, List.not_mem_nil, or_false] at hd
    rcases hd with rfl | rfl <;> omega
  split at hd
  · simp only [List.mem_cons, List.not_mem_nil, or_false] at hd
    rcases hd with rfl | rfl <;> omega
  split at hd
  · simp only [List.mem_cons, List.not_mem_nil, or_false] at hd
    rcases hd with rfl | rfl <;> omega
  split at hd
  · simp only [List.mem_cons, List.not_mem_nil, or_false] at hd
    rcases hd with rfl | rfl <;> omega
  split at hd
  · simp only [List.mem_cons, List.not_mem_nil, or_false] at hd
    omega
  have hp : ∀ (u n : Nat), u < 0x110000 → d ∈ [92, u] ++ (List.replicate (n - ((Nat.toDigits 16 c).map Char.toNat).length) 48 ++ (Nat.toDigits 16 c).map Char.toNat) → d < 0x110000 := fun u n hu h => by
    rcases List.mem_append.mp h with h | h
    · simp only [List.mem_cons, List.not_mem_nil, or_false] at h
      rcases h with rfl | rfl <;> omega
    · exact hx n h
  split at hd
  · exact hp _ _ (by omega) hd
  split at hd
  · exact hp _ _ (by omega) hd
  · exact hp _ _ (by omega) hd
theorem uok_repr {x : Str} (h : Uok x) : Uok (reprText x) := by
  have hq : reprQuote x < 0x110000 := by
    unfold reprQuote
    split <;> omega
  have go : ∀ (l : List Nat) (acc : Array Nat), (∀ c ∈ l, c < 0x110000) → (∀ c ∈ acc.toList, c < 0x110000) → ∀ c ∈ (l.foldl (fun out c => out ++ (reprChar (reprQuote x) c).toArray) acc).toList, c < 0x110000 := by
    intro l
    induction l with
    | nil => exact fun acc _ ha => ha
    | cons d r ih =>
      intro acc hl ha
      rw [List.foldl_cons]
      refine ih _ (fun c hc => hl c (List.mem_cons_of_mem _ hc)) fun c hc => ?_
      rw [Array.toList_append] at hc
      rcases List.mem_append.mp hc with hc | hc
      · exact ha c hc
      · exact reprChar_lt (hl d List.mem_cons_self) c (by simpa using hc)
  intro c hc
  unfold reprText at hc
  rw [Array.toList_push] at hc
  rcases List.mem_append.mp hc with hc | hc
  · rw [← Array.foldl_toList] at hc
    exact go _ _ h (fun c hc => by simp only [List.mem_cons, List.not_mem_nil, or_false] at hc; rw [hc]; exact hq) c hc
  · simp only [List.mem_cons, List.not_mem_nil, or_false] at hc
    rw [hc]
    exact hq
theorem uok_from : ∀ (ts : List Str) (k : Nat) (acc : Str), (∀ t ∈ ts, Uok t) → Uok acc → Uok (textFrom k acc ts)
  | [], _, acc, _, ha => ha
  | t :: ts, k, acc, h, ha => by
    show Uok (textFrom (k + 1) (acc ++ (if k > 0 then ", " else "" : String) ++ t) ts)
    exact uok_from ts _ _ (fun u hu => h u (List.mem_cons_of_mem _ hu)) ((ha.app (Uok.of _)).app (h t List.mem_cons_self))
mutual
theorem uok_shown : ∀ d : PyData, d.canLay0 = true → d.hasDict = false → Uok d.shown
  | .none, _, _ => by simp only [PyData.shown]; exact Uok.of _
  | .bool b, _, _ => by simp only [PyData.shown]; split <;> exact Uok.of _
  | .int i, _, _ => by simp only [PyData.shown]; exact Uok.of _
  | .str x, h, _ => by
    simp only [PyData.shown]
    refine uok_repr fun c hc => ?_
    simp only [PyData.canLay0, PyData.strOk, Array.all_eq_true', decide_eq_true_eq] at h
    exact h c (by simpa using hc)
  | .list ds, h, k => by
    simp only [PyData.shown]
    simp only [PyData.canLay0] at h
    simp only [PyData.hasDict] at k
    exact (uok_from _ 0 _ (uok_shownAll ds h k) (Uok.of _)).app (Uok.of _)
  | .tuple ds, h, k => by
    simp only [PyData.shown]
    simp only [PyData.canLay0] at h
    simp only [PyData.hasDict] at k
    exact ((Uok.of _).app (Uok.join (Uok.of _) (uok_shownAll ds h k))).app (Uok.of _)
  | .dict kvs, _, k => by simp [PyData.hasDict] at k
theorem uok_shownAll : ∀ ds : List PyData, PyData.canLayAll0 ds = true → PyData.hasDictAll ds = false → ∀ t ∈ PyData.shownAll ds, Uok t
  | [], _, _ => fun t ht => by simp [PyData.shownAll] at ht
  | d :: ds, h, k => fun t ht => by
    simp only [PyData.canLayAll0, Bool.and_eq_true] at h
    simp only [PyData.hasDictAll, Bool.or_eq_false_iff] at k
    simp only [PyData.shownAll, List.mem_cons] at ht
    rcases ht with rfl | ht
    · exact uok_shown d h.1 k.1
    · exact uok_shownAll ds h.2 k.2 t ht
end
theorem strOk_of {x : Str} (h : Uok x) : PyData.strOk x = true := by
  unfold PyData.strOk
  rw [Array.all_eq_true']
  exact fun c hc => decide_eq_true (h c (by simpa using hc))
theorem strOk_shown {d : PyData} (h : d.canLay0 = true) (k : d.hasDict = false) : PyData.strOk d.shown = true := strOk_of (uok_shown d h k)
/-- a list of data, by its parts -/
theorem sh_lst {ds : List PyData} (h : PyData.canLayAll0 ds = true) (k : (PyData.list ds).depth ≤ 64) : SeqAt.shaped (.list ds) = true := by
  unfold SeqAt.shaped
  simp only [PyData.canLay0]
  rw [h, decide_eq_true k]
  rfl
end RL

set_option maxHeartbeats 1000000
/-! Pairs of exceptions, made by position and by name. -/
namespace RL
open PySem L2
/-- __init__(self, f): the base's __init__, then self.f = f -/
def spI (K : PySem.W.Frag) (f : Str) : Sp := fun vs H Q _ => ∃ (a C : Addr) (y : V), vs = [.ref a, y] ∧ XC K C ∧ PySem.W.findIn K (.ref C) f = some none ∧ H a = some (exo a C none) ∧
  ∀ dx, H dx = none → dx ≠ a → Q .non (upd (upd H dx (exd dx [(f, y)])) a (exo a C (some dx)))
def spN : Sp := fun vs H Q _ => ∃ v : V, vs = [v] ∧ Q .non H
/-- at a: an exception of the class at C whose f is y -/
def Xv (H : Hp) (a C : Addr) (f : Str) (y : V) : Prop := ∃ dx : Addr, H a = some (exo a C (some dx)) ∧ H dx = some (exd dx [(f, y)])
theorem Xv.same {H H' : Hp} {a C : Addr} {f : Str} {y : V} (h : Xv H a C f y) (s : Same H H') : Xv H' a C f y := by
  obtain ⟨dx, h1, h2⟩ := h
  exact ⟨dx, s _ _ h1, s _ _ h2⟩
/-- v: a list of two such exceptions -/
def Pr (H : Hp) (v : V) (C : Addr) (f : Str) (y : V) : Prop := ∃ l a b : Addr, v = .ref l ∧ H l = some (.lst [.ref a, .ref b]) ∧ Xv H a C f y ∧ Xv H b C f y
theorem Pr.same {H H' : Hp} {v : V} {C : Addr} {f : Str} {y : V} (h : Pr H v C f y) (s : Same H H') : Pr H' v C f y := by
  obtain ⟨l, a, b, e, h1, h2, h3⟩ := h
  exact ⟨l, a, b, e, s _ _ h1, h2.same s, h3.same s⟩
theorem new_upd {H : Hp} {p : Addr} {o : HO} (h : H p = none) : Same H (upd H p o) := fun b x e => by
  rw [upd_ne (ne_of_none e h)]
  exact e
theorem xv_new {H : Hp} {a dx C : Addr} {f : Str} {y : V} (na : H a = none) (nd : H dx = none) (ne : dx ≠ a) : Same H (upd (upd (upd H a (exo a C none)) dx (exd dx [(f, y)])) a (exo a C (some dx))) ∧ Xv (upd (upd (upd H a (exo a C none)) dx (exd dx [(f, y)])) a (exo a C (some dx))) a C f y := by
  refine ⟨fun b o e => ?_, dx, upd_same, ?_⟩
  · rw [upd_ne (ne_of_none e na), upd_ne (ne_of_none e nd), upd_ne (ne_of_none e na)]
    exact e
  · rw [upd_ne ne, upd_same]
def tPair (C : Addr) (f : Str) (i : Nat) : TE := fun σ H Q => ∃ y, σ[i]? = some (some y) ∧ ∀ v H', Same H H' → Pr H' v C f y → (∀ l, v = .ref l → H l = none) → Q v H'
section
variable {X : Cx} {e1 e2 : Expr} {x : Str} {p1 p2 p3 p4 p5 pos : Pos} {nm : Option Str} {kpos : Pos} {i : Nat}
theorem xmk_one {K : PySem.W.Frag} {a C : Addr} {f : Str} {y : V} {H : Hp} {R : Hp → Prop} (T : XC K C) (hno : PySem.W.findIn K (.ref C) f = some none) (na : H a = none) (h : ∀ H', Same H H' → Xv H' a C f y → R H') :
    spI K f [.ref a, y] (upd H a (exo a C none)) (fun v H3 => v = .non ∧ R H3) E0 := by
  refine ⟨a, C, y, rfl, T, hno, upd_same, fun dx nd ne => ⟨rfl, ?_⟩⟩
  rw [upd_ne ne] at nd
  obtain ⟨s1, x1⟩ := xv_new (C := C) (f := f) (y := y) na nd ne
  exact h _ s1 x1
theorem pe_pair {C : Addr} {k : Nat} {f : Str} (M : XM X.prog X.w X.K X.mg X.base k C ["self", f] (spI X.K f)) (hno : PySem.W.findIn X.K (.ref C) f = some none) (hr : Room (k + 1) X.A) (hg : Gl X x) (hm : X.mg x = some (.ref C))
    (h1 : PE X e1 (tVar i)) (h2 : PE X e2 (tVar i)) (hs : starEach [.Call (.Name x p1) [e1] [] p2, .Call (.Name x p3) [] [⟨nm, e2, kpos⟩] p4] X.env = (false, eval (.Call (.Name x p1) [e1] [] p2) X.env) :: starEach [.Call (.Name x p3) [] [⟨nm, e2, kpos⟩] p4] X.env := by rfl)
    (hs2 : starEach [.Call (.Name x p3) [] [⟨nm, e2, kpos⟩] p4] X.env = (false, eval (.Call (.Name x p3) [] [⟨nm, e2, kpos⟩] p4) X.env) :: starEach [] X.env := by rfl) (hs1 : starEach [e1] X.env = (false, eval e1 X.env) :: starEach [] X.env := by rfl) (hdb : (x == ("__debug__" : Str)) = false := by decide)
    (hks : (backToKw p4 (keywordEach [⟨nm, e2, kpos⟩] X.env)).filterMap (·.1) = [f] := by rfl) (hall : (backToKw p4 (keywordEach [⟨nm, e2, kpos⟩] X.env)).all (·.1.isSome) = true := by rfl) (hpl : ((backTo p4 (starEach [] X.env)).any (·.1) || (backToKw p4 (keywordEach [⟨nm, e2, kpos⟩] X.env)).any (·.1.isNone)) = false := by rfl) :
    PE X (.List [.Call (.Name x p1) [e1] [] p2, .Call (.Name x p3) [] [⟨nm, e2, kpos⟩] p4] pos) (tPair C f i) := by
  have hp := pe_lst (pos := pos) (pa_cons (pe_xmk (p := p1) (pos := p2) M hr hg hm (pa_cons h1 pa_nil hs1) rfl (Nat.succ_le_of_lt (by decide : 0 < 1000)) hdb hs1 rfl) (pa_cons (pe_xmkK (p := p3) (pos := p4) M hr hg hm (pk_cons (nm := nm) (kpos := kpos) h2 pk_nil) hall hks hdb hpl) pa_nil hs2) hs)
  refine ⟨fun pins s σ H Q I h => hp.run pins s σ H Q I ?_⟩
  obtain ⟨y, ey, q⟩ := h
  refine ⟨y, ey, rfl, rfl, fun a na => xmk_one M.xc hno na fun H1 s1 x1 => ?_⟩
  refine ⟨y, ey, rfl, rfl, fun b nb => xmk_one M.xc hno nb fun H2 s2 x2 => ?_⟩
  refine ⟨(by show 2 ≤ sizeLine; decide), fun l nl => ?_⟩
  have s3 := new_upd (o := .lst [.ref a, .ref b]) nl
  exact q _ _ ((s1.trans s2).trans s3) ⟨l, a, b, rfl, upd_same, (x1.same s2).same s3, x2.same s3⟩ (fun l' e => by cases e; exact (s1.trans s2).free nl)
/-- C() -/
def tMk0 (C : Addr) : TE := fun _ H Q => ∀ a, H a = none → Q (.ref a) (upd H a (exo a C none))
theorem pe_mk0 {C : Addr} {k : Nat} {y : Str} (M : XM X.prog X.w X.K X.mg X.base k C [y] spN) (hr : Room (k + 1) X.A) (hg : Gl X x) (hm : X.mg x = some (.ref C)) (hdb : (x == ("__debug__" : Str)) = false := by decide) : PE X (.Call (.Name x p1) [] [] p2) (tMk0 C) := by
  have hp := pe_xmk0 (p := p1) (pos := p2) M hr hg hm hdb
  exact ⟨fun pins s σ H Q I h => hp.run pins s σ H Q I ⟨rfl, rfl, fun a na => ⟨.ref a, rfl, rfl, h a na⟩⟩⟩
end
section
variable {X : Cx} {K : PySem.W.Frag} {e : Expr} {te : TE} {pos : Pos} {n : Str}
theorem pe_xfdK (he : PE X e te) (hK : X.K = K := by rfl) (hb : attributeBase e n X.env (eval e X.env) = eval e X.env := by rfl) : PE X (.Attribute e n pos) (tXfd K n te) := by
  subst hK
  exact pe_xfd he hb
theorem cr_rpK (hG : X.A.guards = some []) (hu : X.A.units + 64 < cLine) (hK : X.K = K := by rfl) : CallR X (.builtin "repr") (rRp K) := by
  subst hK
  exact cr_rp hG hu
end
/-- for i, x in enumerate(l) -/
theorem for_enum {K : PySem.W.Frag} {a : Addr} {xs : List V} {g : TG} {tb : TS} {D : Ends} {σ : L2.St} {H : Hp} (Pv : Nat → L2.St → Hp → Prop) (h0 : Pv 0 σ H) (hl : ∀ i σ H, i ≤ xs.length → Pv i σ H → SqL K H a xs)
    (hs : ∀ i x σ H T, xs[i]? = some x → Pv i σ H → H T = none → g (.ref T) σ (upd H T (.tup [.int (i : Nat), x])) fun σ2 H2 => tb { D with nx := Pv (i + 1), ct := Pv (i + 1), bk := D.nx } σ2 H2) (hd : ∀ σ H, Pv xs.length σ H → D.nx σ H) :
    ∃ W : Nat → Nat → L2.St → Hp → Prop, (∃ m, W 0 m σ H) ∧ ∀ i m σ H, W i m σ H →
      ((Ite K a).stop i H ∧ D.nx σ H) ∨ ((Ite K a).go i H ∧ ∃ N : L2.St → Hp → Prop, (∀ σ' H', N σ' H' → ∃ m', m' < m ∧ W (i + 1) m' σ' H') ∧ ∀ x H', (Ite K a).yld i H x H' → g x σ H' fun σ2 H2 => tb { D with nx := N, ct := N, bk := D.nx } σ2 H2) := by
  refine ⟨fun i m σ H => m = xs.length - i ∧ i ≤ xs.length ∧ Pv i σ H, ⟨xs.length, by simp, Nat.zero_le _, h0⟩, ?_⟩
  rintro i m σ H ⟨rfl, hi, p⟩
  have q := hl i σ H hi p
  by_cases hlt : i < xs.length
  · refine .inr ⟨⟨xs, xs[i], q, by simp [hlt]⟩, Pv (i + 1), fun σ' H' p' => ⟨xs.length - (i + 1), by omega, rfl, hlt, p'⟩, fun x H' y => ?_⟩
    obtain ⟨T, z, rfl, nT, rfl, ez⟩ := y
    exact hs i z σ H T (ez xs q) p nT
  · have e : i = xs.length := by omega
    rw [e] at p ⊢
    exact .inl ⟨⟨xs, q, Nat.le_refl _⟩, hd σ H p⟩
end RL

set_option maxHeartbeats 2000000
/-! try: .. except (A, B, C) as e: .. where the suite calls defs that ask e and make lists. -/
namespace RL
open PySem L2 PySem.Spec PyProof.Rows
/-! ### the clause -/
theorem fly_keeps {B : Heap} {l : List Env} {a : Addr} {Z : Obj → Prop} {h h' : Heap} (fl : HandSPX.FlyingZ B l a Z h) (k : ∀ b o, h.get? b = some o → h'.get? b = some o) : HandSPX.FlyingZ B l a Z h' := by
  obtain ⟨g1, g2, g3, oe, vs, T, oT, ts, he, hz, hd, h1, hnT, hTe, hT, hdT, h3⟩ := fl
  exact ⟨fun b o e => k b o (g1 b o e), g2, g3.of_keeps fun b o e _ => ⟨o, k b o e, rfl⟩, oe, vs, T, oT, ts, k _ _ he, hz, hd, h1, hnT, hTe, k _ _ hT, hdT, h3⟩
/-- what the clause wishes of an exception of the body; it is always taken -/
def wAs3 (K : PySem.W.Frag) (cs : List Value) (i : Nat) (ts : Addr → Value → Option Addr → TS) (D : Ends) : WX := fun cls d σ H => PySem.W.exmAny K cls cs = some true ∧
  ∀ a, H a = none → ts a cls d { nx := fun σ' H' => D.nx (σ'.set i none) H', rt := D.rt, bk := fun σ' H' => D.bk (σ'.set i none) H', ct := fun σ' H' => D.ct (σ'.set i none) H' } (σ.set i (some (.ref a))) H
section
variable {X : Cx} {x1 x2 x3 n : Str} {c1 c2 c3 : Value} {i kk : Nat} {body suite : List Stmt} {b₀ : Stmt} {p1 p2 p3 tpos pos pos' : Pos} {tb : WX → TS} {ts : Addr → Value → Option Addr → TS}
theorem ps_try_as3 (hs : X.stack = X.env :: X.outer) (hf : X.env.frame = some X.env.locals) (hN : X.N.Nodup) (hi : X.N[i]? = some n) (hln : X.env.kindOf n = some .local) (n1 : Names X x1 c1) (n2 : Names X x2 c2) (n3 : Names X x3 c3)
    (hb : ∀ (W : WX) (pn : List (Addr × Obj)) (xe : Value → Shared → Prop), L2N.Takes (X.tr pn xe) W → PassesOwn (model X.prog X.w) X.A X.env xe → PSs (X.tr pn xe) body (tb W))
    (hsu : ∀ (a : Addr) (oe : Obj) (cls : Value) (d : Option Addr) (pn : List (Addr × Obj)), L2N.Zn cls d oe → (∃ vs, oe.data = .fields vs) → PSs (X.suite a ((a, oe) :: pn)) (b₀ :: suite) (ts a cls d)) :
    PS X (.Try body [.ExceptHandler (some (.Tuple [.Name x1 p1, .Name x2 p2, .Name x3 p3] kk tpos)) (some n) (b₀ :: suite) pos'] [] [] pos) (fun D σ H => tb (wAs3 X.K [c1, c2, c3] i ts D) D σ H) := by
  refine ⟨fun pins s σ H D I h => ?_⟩
  have ok := I.ok
  have hfr : X.A.frames = some (X.env :: X.outer) := by rw [ok.frames, hs]
  refine wpAny_Try_except (wpAny_mono ((hb (wAs3 X.K [c1, c2, c3] i ts D) (X.pn ++ pins) (fun e s₁ => wpAny (model X.prog X.w) X.A (noteFrame e X.env) (fun _ s₂ => wpAny (model X.prog X.w) X.A (setFlight e none) (fun _ s₃ =>
    wpAny (model X.prog X.w) X.A (handleBy e X.env [.ExceptHandler (some (.Tuple [.Name x1 p1, .Name x2 p2, .Name x3 p3] kk tpos)) (some n) (b₀ :: suite) pos']) (SP X pins D) X.xe s₃) X.xe s₂) X.xe s₁) (fun u s' xx => ?_) PassesOwn.looking).run [] s σ H D (I.toTry _) h) (fun f s1 hsp => ?_) (fun e s1 he => he))
  · obtain ⟨a, B, sI, pins', σ', H', cls, d, rfl, J', nb, up, sky, na, os, ag, hb1, hyes⟩ := xx
    have J : Inv X pins σ' H' sI := J'.ofTry ok
    rw [show (X.tr (X.pn ++ pins) _).stack = X.env :: X.outer from hs] at sky
    show wpAny (model X.prog X.w) X.A (noteFrame (.ref a) X.env) _ _ _
    refine L2N.Sky.land L2N.Zn.steady hfr hf sky fun h3 fl3 up3 => ?_
    have J3 : Inv X pins σ' H' { s' with heap := h3 } := J.landed nb fl3.1 (up.trans up3) os ag
    obtain ⟨oe3, vs3, he3, hz3, hd3⟩ := fl3.there
    have nfr : a ∉ frs (X.env :: X.outer) := fun hm => by
      obtain ⟨_, o', e', hnf⟩ := fl3.2.2.1.mem hm
      rw [he3] at e'
      cases e'
      exact hnf _ hd3
    have nL : a ≠ X.env.locals := fun z => nfr (List.mem_filterMap.mpr ⟨X.env, List.mem_cons_self, by rw [hf, z]⟩)
    have nF : a ∉ X.fs := fun hm => by
      obtain ⟨e, he, q⟩ := List.mem_filterMap.mp hm
      exact nfr (List.mem_filterMap.mpr ⟨e, List.mem_cons_of_mem _ he, q⟩)
    have S3 := J3.suite he3 hd3 na nL nF
    have look : ∀ {y : Str} {c : Value} {py : Pos} {Q : Value → Shared → Prop} {E : Value → Shared → Prop}, Names X y c → Q c { s' with heap := h3 } → wpAny (model X.prog X.w) (X.A.mark (some (.ref a))) (eval (.Name y py) X.env) Q E { s' with heap := h3 } := fun {y c py Q E} hc q => by
      obtain ⟨hg, hdbg, hm | ⟨hm, hv, hnn⟩⟩ := hc
      · exact ld_glob (X := X.suite a ((a, oe3) :: (X.pn ++ pins))) S3 hg hm q hdbg
      · exact ld_blt (X := X.suite a ((a, oe3) :: (X.pn ++ pins))) S3 hg hm hv q hnn hdbg
    refine wpAny_handleBy_cons (codeAny_handlers_test ?_) (by intro q; cases q)
    refine wpAny_Tuple (wpAny_items_cons (look n1 (wpAny_items_cons (look n2 (wpAny_items_cons (look n3 (wpAny_items_nil ⟨by size_fits, ?_⟩)))))))
    have kp : ∀ q o, h3.get? q = some o → (h3.push { cls := .type "tuple", data := .seq [c1, c2, c3].toArray }).get? q = some o := fun _ _ z => Heap.get?_push_of_some _ z
    have LT : PySem.W.Looks (model X.prog X.w) h3 (typeOf (.ref a)) cls := fun A Q E s k q => wpAny_typeOf_ref (k _ _ he3) (by rw [hz3.1]; exact q)
    refine (PySem.W.exm_tup3 (M := model X.prog X.w) (J3.kIn.keeps kp) (LT.keeps kp) (Heap.get?_push_size h3 rfl) hb1).here ?_
    refine codeAny_handlers_suite_as ?_
    refine HandSPX.lands_againZ (fly_keeps fl3 kp) fun h4 fl4 up4 => ?_
    have J4 : Inv X pins σ' H' { s' with heap := h4 } := J.landed nb fl4.1 ((up.trans up3).trans ((Heap.UpToSlots.of_keeps kp).trans up4)) os ag
    obtain ⟨oe4, vs4, he4, hz4, hd4⟩ := fl4.there
    have S4 := J4.suite he4 hd4 na nL nF
    refine store_ok (X := X.suite a ((a, oe4) :: (X.pn ++ pins))) (v := .ref a) S4 hN hi (.inl hln) rfl (fun s5 S5 => ?_) (.inr hln)
    refine wpAny_mono ((hsu a oe4 cls d (X.pn ++ pins) hz4 ⟨_, hd4⟩).run [] s5 _ H' _ S5 (hyes a na)) (fun f s6 hsp => ?_) (fun _ _ z => False.elim z)
    have fin : ∀ {σ6 : L2.St} {H6 : Hp} {Q : Shared → Prop}, Inv (X.suite a ((a, oe4) :: (X.pn ++ pins))) [] σ6 H6 s6 → (∀ s7, Inv X pins (σ6.set i none) H6 s7 → Q s7) →
        wpAny (model X.prog X.w) X.A (do bindName X.env n .none; unbindBehindTheSuite X.env n pos') (fun _ s7 => Q s7) X.xe s6 := fun {σ6 H6 Q} S6 hq => gone_ok (S6.unsuite ok) hN hi hln hq
    cases f with
    | next =>
      obtain ⟨σ6, H6, S6, q6⟩ := hsp
      exact fin S6 fun s7 J7 => ⟨_, _, J7, q6⟩
    | brk =>
      obtain ⟨σ6, H6, S6, q6⟩ := hsp
      exact fin S6 fun s7 J7 => ⟨_, _, J7, q6⟩
    | cont =>
      obtain ⟨σ6, H6, S6, q6⟩ := hsp
      exact fin S6 fun s7 J7 => ⟨_, _, J7, q6⟩
    | ret u =>
      obtain ⟨v6, σ6, H6, S6, r6, q6⟩ := hsp
      exact fin S6 fun s7 J7 => ⟨_, _, _, J7, r6, q6⟩
  · cases f with
    | next =>
      obtain ⟨σ', H', J', q⟩ := hsp
      exact wpAny_execs_nil ⟨σ', H', J'.ofTry ok, q⟩
    | brk =>
      obtain ⟨σ', H', J', q⟩ := hsp
      exact ⟨σ', H', J'.ofTry ok, q⟩
    | cont =>
      obtain ⟨σ', H', J', q⟩ := hsp
      exact ⟨σ', H', J'.ofTry ok, q⟩
    | ret u =>
      obtain ⟨v, σ', H', J', r, q⟩ := hsp
      exact ⟨v, σ', H', J'.ofTry ok, r, q⟩
end
/-! ### defs called in the suite -/
/-- the promise of a def called while the exception at p is handled; it may speak of p -/
structure FnE (P : Program) (w : World) (K : PySem.W.Frag) (mg : Str → Option Value) (base : Heap) (k : Nat) (f : Addr) (fd : FuncData) (ps : List Str) (sp : Addr × Obj → Sp) : Prop where
  len : ∀ p vs H Q E, sp p vs H Q E → vs.length = ps.length
  run : ∀ (A : Around) (outer : List Env) (s : Shared) (H : Hp) (args : Args) (us : List Value) (vs : List V) (Q : VK) (p : Addr × Obj), L2H.RoomH k A → L2H.Hot1 A p → L2H.PinOk outer H s p → Env0 P w K mg base A outer s H → BindsTo s fd args (ps.zip us) → Vals vs us → sp p vs H Q E0 →
    codeAny (model P w) A (.call (.ref f) args) (CR CX0 outer P w H s Q E0) s
section
variable {P : Program} {w : World} {K : PySem.W.Frag} {mg : Str → Option Value} {base : Heap}
theorem okE {x qual : Str} {st : Stmt} {f : Addr} {fd : FuncData} {N ps : List Str} {k : Nat} {sp : Addr × Obj → Sp} (F : Fun K x qual st f fd) (S : FnScope N ps (defScope st)) (len : ∀ p vs H Q E, sp p vs H Q E → vs.length = ps.length)
    (bd : ∀ (cdv : Value) (A : Around) (outer : List Env) (s : Shared) (H : Hp) (vs : List V) (Q : VK) (p : Addr × Obj), L2H.Hot1 A p → L2H.RoomH k (A.deeper (envOfC qual (defScope st) s.heap.objs.size f cdv)) → sp p vs H Q E0 →
      ∃ t, PSs (L2H.cxH CX0 P w K mg base N qual (defScope st) f cdv A outer s H E0 p) (defBody st) t ∧ t { nx := fun _ H' => Q .non H', rt := Q } (L2.start N vs) H) : FnE P w K mg base (k + 1) f fd ps sp := by
  obtain ⟨oc, od, kV, doc, pm, an, cdv, ct, osl, rfl, lk, hcd⟩ := F.ex
  refine ⟨len, fun A outer s H args us vs Q p hr hot hpin e0 hb r hsp => ?_⟩
  have KX : K.In s.heap := e0.mod.kin.keeps fun b o e => (e0.bs b o e).1
  have lim := e0.mod.nolimit.keeps fun b o e => (e0.bs b o e).1
  refine codeAny_call_function hr.depth (KX _ _ lk) rfl S.co S.gen rfl (PySem.W.codeRec_of KX hcd) (hb _ _ _ _ (wpAny_newFunctionEnv_cells S.kind (fun ⟨n, v⟩ hy => ?_) fun env he s1 x => ?_))
  · exact (S.par n (List.of_mem_zip hy).1).imp id fun q => ⟨q, PySem.W.cellsFrom_some _ _ _ (.inl q)⟩
  · subst he
    obtain ⟨t, ht, hq⟩ := bd cdv A outer s H vs Q p hot (hr.deeper _) hsp
    have I : Inv (L2H.cxH CX0 P w K mg base N qual (defScope st) f cdv A outer s H E0 p) [] (L2.start N vs) H s1 := L2H.inv_startH S hpin e0 (len _ _ _ _ _ hsp) r x
    refine ⟨lim.keeps x.toInCall.keep, codeAny_func (wpAny_mono (ht.run [] s1 _ H _ I hq) (fun fl s' hs => ?_) fun _ _ z => z)⟩
    cases fl with
    | ret u =>
      obtain ⟨v, σ', H', J, rv, q⟩ := hs
      exact ⟨v, H', J.os, J.bare, J.base, J.hok, rv, q⟩
    | next =>
      obtain ⟨σ', H', J, q⟩ := hs
      exact ⟨V.non, H', J.os, J.bare, J.base, J.hok, rfl, q⟩
    | brk => exact hs.elim fun _ z => z.elim fun _ y => False.elim y.2
    | cont => exact hs.elim fun _ z => z.elim fun _ y => False.elim y.2
end
structure DfE (P : Program) (w : World) (K : PySem.W.Frag) (mg : Str → Option Value) (base : Heap) (k : Nat) (x : Str) (ps : List Str) (sp : Addr × Obj → Sp) : Prop where
  ex : ∃ (f : Addr) (fd : FuncData), FnE P w K mg base k f fd ps sp ∧ mg x = some (.ref f) ∧ PySem.W.keepIn K (.ref f) = true ∧ Binds K fd ps []
section
variable {X : Cx} {k : Nat} {ps : List Str} {sp : Addr × Obj → Sp} {x : Str} {q pos : Pos} {e : Expr} {es : List Expr} {t : TA} {p : Addr × Obj}
theorem pe_dfE (D : DfE X.prog X.w X.K X.mg X.base k x ps sp) (hr : L2H.RoomH k X.A) (hot : L2H.Hot1 X.A p) (hp : p ∈ X.pn) (hg : Gl X x)
    (ha : PA X (e :: es) t) (hdb : (x == ("__debug__" : Str)) = false := by decide) (he : starEach (e :: es) X.env = (false, eval e X.env) :: starEach es X.env := by rfl) (hpl : (backTo pos (starEach es X.env)).any (·.1) = false := by rfl) :
    PE X (.Call (.Name x q) (e :: es) [] pos) (fun σ H Q => t σ H fun vs H1 => sp p vs H1 Q E0) := by
  obtain ⟨f, fd, F, hm, hk, hb⟩ := D.ex
  refine ⟨fun pins s σ H Q I h => wpAny_Call_Name_kw (ld_glob I hg hm (PySem.W.callWith_K (h₀ := X.base) I.ok.mod.kin hk (thn (ha.run pos pins s σ H _ I h) fun us s1 ⟨vs, H1, I1, r, q0⟩ => ⟨I1.kIn, ?_⟩) he hpl) hdb)⟩
  have hl : us.length = ps.length := by
    rw [← r.length]
    exact F.len _ _ _ _ _ q0
  have hbb := hb s1 us I1.kIn (by rw [List.append_nil]; exact hl)
  rw [List.append_nil] at hbb
  have P1 := I1.pin p (List.mem_append_left _ hp)
  have hpin : L2H.PinOk X.stack H1 s1 p := ⟨P1.1, P1.2.1, fun hm => (List.mem_cons.mp (I1.stkSub p.1 hm)).elim P1.2.2.1 P1.2.2.2.1, P1.2.2.2.2⟩
  refine wpAny_call (codeAny_mono (F.run X.A X.stack s1 H1 ⟨us, []⟩ us vs Q p hr hot hpin I1.env0 hbb r q0) fun z s' hq => ?_)
  cases z with
  | error e => exact hq.elim
  | ok fl =>
    cases fl with
    | ret u => exact I1.after hq
    | next => exact hq.elim
    | brk => exact hq.elim
    | cont => exact hq.elim
end
/-! ### the exception asked -/
/-- p: an exception of the class at C -/
def Px (p : Addr × Obj) (C : Addr) (H : Hp) : Prop := p.2.cls = .ref C ∧ (∃ vs, p.2.data = .fields vs) ∧ (p.2.dict = none ∨ ∃ (d : Addr) (fs : List (Str × V)), p.2.dict = some d ∧ H d = some (.xd fs))
theorem Px.same {p : Addr × Obj} {C : Addr} {H H' : Hp} (h : Px p C H) (s : Same H H') : Px p C H' := ⟨h.1, h.2.1, h.2.2.imp id fun ⟨d, fs, a, b⟩ => ⟨d, fs, a, s _ _ b⟩⟩
def rIsP (K : PySem.W.Frag) (p : Addr × Obj) : List V → Hp → VK → Prop := fun xs H Q => ∃ (C : Addr) (c : V) (u : Value) (b : Bool), xs = [.ref p.1, c] ∧ ClsV c u ∧ XC K C ∧ Px p C H ∧ PySem.W.kitOne K (.ref C) u = some b ∧ Q (.bl b) H
theorem call_isP {X : Cx} {p : Addr × Obj} (Z : XK0 X.K) (hp : p ∈ X.pn) : CallR X (.builtin "isinstance") (rIsP X.K p) := by
  intro pins s σ H xs us Q I r h
  obtain ⟨C, c, u, b, rfl, kc, T, ⟨hc, ⟨vs, hd⟩, hx⟩, e, q⟩ := h
  obtain ⟨u1, u2, rfl, r1, r2⟩ := vals2 r
  have e2 := kc.eq r2
  subst e2
  cases (show u1 = Value.ref p.1 from r1)
  obtain ⟨hget, _⟩ := I.pin p (List.mem_append_left _ hp)
  have nc : PySem.W.notCls p.2 = true := by unfold PySem.W.notCls; rw [hd] <;> rfl
  have key : ∃ od, PySem.W.InstAt s.heap p.1 p.2 C od := by
    rcases hx with hx | ⟨dx, fs, hx, hf⟩
    · exact ⟨none, hget, hc, nc, by rw [hx]; trivial⟩
    · obtain ⟨mA, ⟨od, es, ep, hod, _⟩, _⟩ := (show ObjOk X.prog X.w H s.heap dx (.xd fs) from I.hok dx _ hf)
      exact ⟨some od, hget, hc, nc, by rw [hx]; exact hod⟩
  obtain ⟨od, J⟩ := key
  exact PySem.W.kia_one (PySem.W.kitx_exc (ox := p.2) (od := od) T.cl T.ga T.gg T.sub T.ca Z.cn Z.ct T.mo) I.kIn J e (fun z => nomatch z) fun tk => ⟨.bl b, H, I.tok tk, rfl, q⟩
/-- e.f in the suite -/
def tPfd (K : PySem.W.Frag) (p : Addr × Obj) (f : Str) (te : TE) : TE := fun σ H Q => te σ H fun x H1 => ∃ (C dx : Addr) (fs : List (Str × V)) (v : V), x = .ref p.1 ∧ XC K C ∧ PySem.W.findIn K (.ref C) f = some none ∧ p.2.cls = .ref C ∧ (∃ vs, p.2.data = .fields vs) ∧ p.2.dict = some dx ∧ H1 dx = some (.xd fs) ∧ fs.lookup f = some v ∧ Q v H1
theorem pe_pfd {X : Cx} {p : Addr × Obj} {e : Expr} {te : TE} {pos : Pos} {n : Str} (hp : p ∈ X.pn) (he : PE X e te) (hb : attributeBase e n X.env (eval e X.env) = eval e X.env := by rfl) : PE X (.Attribute e n pos) (tPfd X.K p n te) := by
  refine ⟨fun pins s σ H Q I h => attr_of hb (thn (he.run pins s σ H _ I h) fun u s1 ⟨x, H1, I1, rx, C, dx, fs, v, ex, T, hno, hc, ⟨vs, hd⟩, ed, ea, l, q⟩ => ?_)⟩
  subst ex
  cases (show u = Value.ref p.1 from rx)
  obtain ⟨hget, _⟩ := I1.pin p (List.mem_append_left _ hp)
  obtain ⟨mA, hns, hr⟩ := (show ObjOk X.prog X.w H1 s1.heap dx (.xd fs) from I1.hok dx _ ea)
  obtain ⟨od, hod, hl⟩ := lookIn_ns hns
  obtain ⟨u, hu, ru⟩ := RelO.some_of (v := v) (o := mA n) (by rw [← l]; exact hr n)
  have nc : PySem.W.notCls p.2 = true := by unfold PySem.W.notCls; rw [hd] <;> rfl
  have J : PySem.W.InstAt s1.heap p.1 p.2 C (some od) := ⟨hget, hc, nc, by rw [ed]; exact hod⟩
  exact HandSPX.exc_get I1.kIn J T.ga T.gg T.sub (PySem.W.findObj_own T.hd hno rfl (by rw [hl, hu])) (handed_of ru) ⟨v, H1, I1.tok _, ru, q⟩
theorem pe_pfdK {X : Cx} {K : PySem.W.Frag} {p : Addr × Obj} {e : Expr} {te : TE} {pos : Pos} {n : Str} (hp : p ∈ X.pn) (he : PE X e te) (hK : X.K = K := by rfl) (hb : attributeBase e n X.env (eval e X.env) = eval e X.env := by rfl) : PE X (.Attribute e n pos) (tPfd K p n te) := by
  subst hK
  exact pe_pfd hp he hb
end RL

set_option maxHeartbeats 2000000
/-! [.. for x in range(..) if ..] where an exception is handled. -/
namespace RL
open PySem L2 PySem.Spec PyProof.Rows
/-- a comprehension's block there: it bears the handled exception -/
abbrev blkP (X : Cx) (p : Addr × Obj) (s : Shared) (H : Hp) (scope : Scope) (cenv : Env) (fp : List Addr) : Cx := (X.blk s H scope cenv fp).tr [p] fun _ _ => False
theorem pnB {X : Cx} {p : Addr × Obj} {s : Shared} {H : Hp} {scope : Scope} {cenv : Env} {fp : List Addr} : p ∈ (blkP X p s H scope cenv fp).pn := List.mem_cons_self
section
variable {X : Cx}
theorem lc_hot {pins : List (Addr × Obj)} {s : Shared} {σ : L2.St} {H : Hp} {Q : VK} {elt tg iter : Expr} {ifs : List Expr} {scope : Scope} {own : List (Str × Nat)} {pos pos' : Pos} {wi : TI} {g : TG} {tt : TT} {te : TE} {use : Option (Value → Sem Unit)} {Qf : Value → Shared → Prop} {p : Addr × Obj}
    (hot : L2H.Hot1 X.A p) (hp : p ∈ X.pn) (hN : X.N.Nodup) (I : Inv X pins σ H s) (hi : L2H.PIH X tg iter wi) (ok : BlkOk X.N X.env.scope scope own)
    (hg : ∀ (s : Shared) (H : Hp) (C : Addr) (cl : List (Str × Addr)) (fp : List Addr), PG (blkP X p s H scope (compEnvC scope cl C X.env) fp) tg g) (ht : ∀ (s : Shared) (H : Hp) (C : Addr) (cl : List (Str × Addr)) (fp : List Addr), PTs (blkP X p s H scope (compEnvC scope cl C X.env) fp) ifs tt)
    (he : ∀ (s : Shared) (H : Hp) (C : Addr) (cl : List (Str × Addr)) (fp : List Addr), PE (blkP X p s H scope (compEnvC scope cl C X.env) fp) elt te) (hs : ∀ x, foldedSetIterable iter X.env x = pure x)
    (h : tLc wi g tt te (own.map (·.2)) σ H Q)
    (hRR : ∀ D C s' m H', Inv X pins σ H' s' → Q (.ref D) H' → s'.heap.Ns C m → FpOk X pins H' C → compPost (model X.prog X.w) X.A X.xe use Qf (.ref D) C (.ok .next) s') :
    wpAny (model X.prog X.w) X.A (comprehension (.ListComp elt [⟨tg, iter, ifs, 0⟩] scope pos) scope X.env pos' (newList []) false (eval iter X.env) use) Qf X.xe s := by
  have hfree : ∀ y ∈ scope.names, y.2 = .free → ∃ c, X.env.cells.lookup y.1 = some c := fun y hy e => (ok.free y hy e).elim (fun k => I.ok.has _ (.inl k)) fun k => I.ok.has _ (.inr k)
  refine wpAny_comprehension_free (use := use) rfl hs (closure_ok hfree) ok.kind (fun y hy e => by rw [ok.uniq y hy, e]) (thn (hi.run pins s σ H _ I h) fun xv s1 hx => thn hx fun itv s2 h2 => ?_)
  obtain ⟨it, fp, tn, J, H2, e, I2, T, st2, f2, q⟩ := h2
  subst e
  refine wpAny_newObj_type (newEnv_comp ?_) (by show 0 ≤ sizeLine; decide)
  generalize hD : s2.heap.objs.size = D
  obtain ⟨W, ⟨m0, w0⟩, turn⟩ := q D (I2.hok.fresh (Nat.le_of_eq hD))
  generalize hs3 : ({ s2 with heap := s2.heap.push { cls := .type "list", data := .seq ([] : List Value).toArray } } : Shared) = s3
  have I3 : Inv X pins σ (upd H2 D (.lst [])) s3 := by
    rw [← hs3]
    refine I2.laid (t' := s2.toks) (fun b o e => Heap.get?_push_of_some _ e) (Nat.le_of_eq hD) ⟨Nat.zero_le _, [], 0, .nil, ?_⟩
    rw [← hD]
    exact Heap.get?_push_size _ rfl
  have h3 : s3.heap = s2.heap.push { cls := .type "list", data := .seq ([] : List Value).toArray } := by rw [← hs3]
  have f3 : ∀ b ∈ fp, FpOk X pins (upd H2 D (.lst [])) b ∧ b < s3.heap.objs.size := fun b hb => by
    obtain ⟨o, e, _⟩ := T.obj _ _ st2 b hb
    have hlt := Heap.lt_size e
    refine ⟨⟨?_, (f2 b hb).2⟩, by rw [h3, Heap.size_push]; exact Nat.lt_succ_of_lt hlt⟩
    rw [upd_ne (by rw [← hD]; exact Nat.ne_of_lt hlt)]
    exact (f2 b hb).1
  have st3 : tn 0 s3.heap := T.keep _ _ _ st2 fun b _ o e => by rw [h3]; exact Heap.get?_push_of_some _ e
  have I4' := block_start I3 ok hN f3
  -- the handled exception stays out of the block's reach
  have P3 := I3.pin p (List.mem_append_left _ hp)
  have nst : p.1 ∉ frs X.stack := fun hm => (List.mem_cons.mp (I3.stkSub p.1 hm)).elim P3.2.2.1 P3.2.2.2.1
  have kp4 : ∀ b o, s3.heap.get? b = some o → (pushCells (s3.heap.push { cls := .type "dict", data := .dict #[] }) scope.names).get? b = some o := fun b o e => pushCells_keeps _ _ _ _ (Heap.get?_push_of_some _ e)
  have I4 : Inv (blkP X p s3 (upd H2 D (.lst [])) scope (compEnvC scope (cellsFrom (s3.heap.objs.size + 1) scope.names (cloFrom X.env.cells scope.names [])) s3.heap.objs.size X.env) fp) [] (wipe σ (own.map (·.2))) (upd H2 D (.lst [])) { s3 with heap := pushCells (s3.heap.push { cls := .type "dict", data := .dict #[] }) scope.names } := by
    refine (I4'.pins_of (pins' := [p]) fun r hr => ?_).toTry _
    obtain rfl : r = p := by simpa using hr
    exact ⟨kp4 _ _ P3.1, P3.2.1, Nat.ne_of_lt (Heap.lt_size P3.1), nst, P3.2.2.2.2⟩
  have pg := hg s3 (upd H2 D (.lst [])) s3.heap.objs.size (cellsFrom (s3.heap.objs.size + 1) scope.names (cloFrom X.env.cells scope.names [])) fp
  have pt := ht s3 (upd H2 D (.lst [])) s3.heap.objs.size (cellsFrom (s3.heap.objs.size + 1) scope.names (cloFrom X.env.cells scope.names [])) fp
  have pe := he s3 (upd H2 D (.lst [])) s3.heap.objs.size (cellsFrom (s3.heap.objs.size + 1) scope.names (cloFrom X.env.cells scope.names [])) fp
  show codeAny _ _ (.compStart (.ListComp elt [⟨tg, iter, ifs, 0⟩] scope pos) 0 (.ref it) (.ref D) (compEnvC scope (cellsFrom (s3.heap.objs.size + 1) scope.names (cloFrom X.env.cells scope.names [])) s3.heap.objs.size X.env)) (compPost (model X.prog X.w) X.A X.xe use Qf (.ref D) s3.heap.objs.size) { s3 with heap := pushCells (s3.heap.push { cls := .type "dict", data := .dict #[] }) scope.names }
  have nfp : ∀ b ∈ fp, (upd H2 D (.lst [])) b = none := fun b hb => (f3 b hb).1.1
  generalize hce : compEnvC scope (cellsFrom (s3.heap.objs.size + 1) scope.names (cloFrom X.env.cells scope.names [])) s3.heap.objs.size X.env = ce at I4 pg pt pe ⊢
  have cL : ce.locals = s3.heap.objs.size := by subst hce; rfl
  have hcB : L2H.HotC (blkP X p s3 (upd H2 D (.lst [])) scope ce fp) := ⟨p, hot, pnB⟩
  generalize hH3 : upd H2 D (.lst []) = H3 at I3 I4 pg pt pe w0 nfp f3 hcB
  generalize hs4 : ({ s3 with heap := pushCells (s3.heap.push { cls := .type "dict", data := .dict #[] }) scope.names } : Shared) = s4 at I4 ⊢
  have st4 : tn 0 s4.heap := T.keep _ _ _ st3 fun b _ o e => by rw [← hs4]; exact kp4 _ _ e
  have stat : ∀ {σ' : L2.St} {H' : Hp} {s' : Shared}, Inv (blkP X p s3 H3 scope ce fp) [] σ' H' s' → (∀ b ∈ fp, H' b = none) → ∀ b ∈ fp, FpOk (blkP X p s3 H3 scope ce fp) [] H' b := fun {σ' H' s'} I' hn b hb =>
    ⟨hn b hb, (I'.ok.exf b hb).1, I'.ok.exfs b hb, .inl hb, fun x c e => (I'.ok.exf b hb).2 x c e, fun r hr => by
      obtain rfl : r = p := by simpa using (show r ∈ [p] ++ ([] : List (Addr × Obj)) from hr)
      exact (f3 b hb).1.2.2.2.2.2 r (List.mem_append_left _ hp)⟩
  have loop : codeAny (model X.prog X.w) X.A (.compLoop (.ListComp elt [⟨tg, iter, ifs, 0⟩] scope pos) 0 (.ref it) (.ref D) ce) (compPost (model X.prog X.w) X.A X.xe use Qf (.ref D) s3.heap.objs.size) s4 := by
    refine compLoop_any (fun n s' => ∃ i H', Inv (blkP X p s3 H3 scope ce fp) [] (wipe σ (own.map (·.2))) H' s' ∧ tn i s'.heap ∧ (∀ b ∈ fp, H' b = none) ∧ W i n H') ?_ m0 ⟨0, H3, I4, st4, nfp, w0⟩
    rintro n s5 ⟨i, H5, I5, st5, n5, w5⟩
    rcases turn i n H5 w5 with ⟨stop, qq⟩ | ⟨go, Nx, hNx, step⟩
    · refine thnF (T.done (blkP X p s3 H3 scope ce fp) rfl rfl rfl hcB i [] s5 _ H5 (fun _ _ => False) I5 (stat I5 n5) st5 stop) fun r s6 ⟨hr, I6⟩ => ?_
      subst hr
      have I7 : Inv X pins σ H5 s6 := I3.call' (ch := fp) I6.os I6.base I6.hok I6.bare fun b hb => ⟨(f3 b hb).1.2.2.2.1, (f3 b hb).1.2.1, (f3 b hb).1.2.2.2.2.1, (f3 b hb).1.2.2.2.2.2⟩
      have nC : H5 s3.heap.objs.size = none := by
        have z : H5 ce.locals = none := I6.free
        rw [cL] at z
        exact z
      obtain ⟨m, hn, _⟩ := I6.loc
      have hn : s6.heap.Ns ce.locals m := hn
      rw [cL] at hn
      exact hRR D s3.heap.objs.size s6 m H5 I7 qq hn (I3.fpOk (Nat.le_refl _) nC)
    · refine thnF (T.item (blkP X p s3 H3 scope ce fp) rfl rfl rfl hcB i [] s5 _ H5 (fun _ _ => False) I5 (stat I5 n5) st5 go) fun r s6 ⟨u, hr, h6⟩ => ?_
      subst hr
      refine thnF h6 fun _ s7 ⟨x, H7, I7, r7, y7, st7, n7⟩ => ?_
      have I7' := I7.pinned (stat I7 n7) (T.obj _ _ st7)
      refine thnF (pg.run _ s7 _ H7 x u _ I7' r7 (step x H7 y7)) fun _ s8 ⟨σ8, H8, I8, hw8, q8⟩ => ?_
      refine thnF (pt.run _ s8 σ8 H8 _ I8 q8) fun b s9 ⟨H9, I9, q9⟩ => ?_
      have fin : ∀ {s' : Shared} {H' : Hp}, Inv (blkP X p s3 H3 scope ce fp) ([] ++ pinsAt fp s7.heap) σ8 H' s' → Nx H' → ∃ m, m < n ∧ ∃ i H', Inv (blkP X p s3 H3 scope ce fp) [] (wipe σ (own.map (·.2))) H' s' ∧ tn i s'.heap ∧ (∀ b ∈ fp, H' b = none) ∧ W i m H' := fun {s' H'} I' nx => by
        obtain ⟨m', hm, w'⟩ := hNx H' nx
        have pin' : ∀ b ∈ fp, ∀ o, s7.heap.get? b = some o → s'.heap.get? b = some o ∧ H' b = none := fun b hb o e =>
          let z := I'.pin (b, o) (List.mem_append_right _ (List.mem_append_right _ (mem_pinsAt hb e)))
          ⟨z.1, z.2.1⟩
        have hl : (wipe σ (own.map (·.2))).length = σ8.length := by rw [← hw8, wipe_length]
        refine ⟨m', hm, i + 1, H', (I'.unpinned (pins := [])).weak hl (fun j v e => ?_), T.keep _ _ _ st7 fun b hb o e => (pin' b hb o e).1, fun b hb => ?_, w'⟩
        · rw [← hw8] at e
          exact (wipe_some e).1
        · obtain ⟨o, e, _⟩ := T.obj _ _ st7 b hb
          exact (pin' b hb o e).2
      cases b with
      | false =>
        simp only [Bool.false_eq_true, if_false] at q9 ⊢
        exact fin I9 q9
      | true =>
        simp only [if_true] at q9 ⊢
        refine thnF (pe.run _ s9 σ8 H9 _ I9 q9) fun z s10 ⟨yv, H10, I10, r10, acc, hD10, hz10, nx⟩ => ?_
        exact app_ok (X := blkP X p s3 H3 scope ce fp) I10 hD10 hz10 r10 fun s11 I11 => fin I11 nx
  exact codeAny_compStart_list loop (T.self X.A 0 _ _ _ st4 loop)
theorem pe_lcP {elt tg iter : Expr} {ifs : List Expr} {scope : Scope} {own : List (Str × Nat)} {pos : Pos} {wi : TI} {g : TG} {tt : TT} {te : TE} {p : Addr × Obj} (hot : L2H.Hot1 X.A p) (hp : p ∈ X.pn) (hN : X.N.Nodup) (hi : L2H.PIH X tg iter wi) (ok : BlkOk X.N X.env.scope scope own)
    (hg : ∀ (s : Shared) (H : Hp) (C : Addr) (cl : List (Str × Addr)) (fp : List Addr), PG (blkP X p s H scope (compEnvC scope cl C X.env) fp) tg g) (ht : ∀ (s : Shared) (H : Hp) (C : Addr) (cl : List (Str × Addr)) (fp : List Addr), PTs (blkP X p s H scope (compEnvC scope cl C X.env) fp) ifs tt)
    (he : ∀ (s : Shared) (H : Hp) (C : Addr) (cl : List (Str × Addr)) (fp : List Addr), PE (blkP X p s H scope (compEnvC scope cl C X.env) fp) elt te) (hs : ∀ x, foldedSetIterable iter X.env x = pure x := by intro _; rfl) :
    PE X (.ListComp elt [⟨tg, iter, ifs, 0⟩] scope pos) (tLc wi g tt te (own.map (·.2))) := by
  refine ⟨fun pins s σ H Q I h => ?_⟩
  rw [eval_ListComp]
  refine lc_hot hot hp hN I hi ok hg ht he hs h fun D C s' m H' I' q hn f => ⟨m, hn, fun h'' sb => ?_⟩
  obtain ⟨f0, f1, f2, f3, f4, f5⟩ := f
  exact ⟨.ref D, H', I'.turned (t' := s'.toks) (fun b o hb e => (sb.2 b hb).trans e) f0 f1 f3 f4 f5, rfl, q⟩
end
end RL

set_option maxHeartbeats 2000000
/-! raise X(e) for the package's classes; defs that raise; a lambda that may raise, handed to a def. -/
namespace RL
open PySem L2 PySem.Spec PyProof.Rows
/-! ### raise -/
/-- X(e): class and dict of the exception -/
def tMkX (C : Addr) (f : Str) (te : TE) : L2.St → Hp → XK → Prop := fun σ H Q => te σ H fun y H1 => ∀ d, H1 d = none → Q (.ref C) (some d) (upd H1 d (.xd [(f, y)]))
def oneV (R : V → Hp → Prop) : List V → Hp → Prop
  | [y], H => R y H
  | _, _ => False
theorem pmk_x {X : Cx} {k : Nat} {C : Addr} {f x : Str} {e : Expr} {te : TE} {p pos : Pos} (M : XM X.prog X.w X.K X.mg X.base k C ["self", f] (spI X.K f)) (tyC : PySem.W.typeIn X.K (.ref C) = some (.type "type")) (hno : PySem.W.findIn X.K (.ref C) f = some none)
    (hr : Room (k + 1) X.A) (hg : Gl X x) (hm : X.mg x = some (.ref C)) (he : PE X e te) (hdb : (x == ("__debug__" : Str)) = false := by decide) (hst : starEach [e] X.env = (false, eval e X.env) :: starEach [] X.env := by rfl) (hpl : (backTo pos (starEach [] X.env)).any (·.1) = false := by rfl) :
    L2N.PMk X (.Call (.Name x p) [e] [] pos) (tMkX C f te) := by
  intro pins s σ H Q I h
  obtain ⟨g, fd, iC, tI, F, hb, _⟩ := M.ex
  have T := M.xc
  obtain ⟨B, nid, iid, bmB, FB, SF, q, ov⟩ := T.base
  have h' : tCons te tNil σ H (oneV fun y H1 => ∀ d, H1 d = none → Q (.ref C) (some d) (upd H1 d (.xd [(f, y)]))) := h
  refine wpAny_Call_Name_kw (ld_glob I hg hm (PySem.W.callWith_K (h₀ := X.base) I.ok.mod.kin T.kp (thn ((pa_cons he pa_nil hst).run pos pins s σ H _ I h') fun us s1 ⟨vs, H1, I1, r, q1⟩ => ⟨I1.kIn, ?_⟩) hst hpl) hdb)
  cases r with
  | nil => exact False.elim q1
  | @cons y u vs' us' ry rr =>
    cases rr with
    | cons _ _ => exact False.elim q1
    | nil =>
      obtain ⟨nm, N', qn, bs, bm, hdct, sn, sub, ab, col, dd, k0, k1, k2, k3, k5, hC, hT⟩ := PySem.W.excInit_of I1.kIn q
      have bf : ∀ self, PySem.W.Looks (model X.prog X.w) s1.heap (bindSpecial (.ref g) self) (.ref g, [self]) := fun self => PySem.W.bind_fn I1.kIn self (beq_iff_eq.mp tI)
      have li := PySem.W.looks_findIn (M := model X.prog X.w) I1.kIn iC
      obtain ⟨hp, gs, dr, tk, os⟩ := s1
      have hsz : hp.objs.size ≤ hp.objs.size + 1 := Nat.le_succ _
      have hn : H1 (hp.objs.size + 1) = none := I1.hok.fresh hsz
      have kk : ∀ b o, hp.get? b = some o → (PySem.RLX.laid2 C [u] hp).get? b = some o := fun b o e => Heap.get?_push_of_some _ (Heap.get?_push_of_some _ e)
      have hget : (PySem.RLX.laid2 C [u] hp).get? (hp.objs.size + 1) = some (PySem.HandSPX.excO C hp.objs.size) := by heap_get
      have I2 : Inv X pins σ (upd H1 (hp.objs.size + 1) (exo (hp.objs.size + 1) C none)) ⟨PySem.RLX.laid2 C [u] hp, gs, dr, tk, os⟩ :=
        I1.laid (t' := tk) (a := hp.objs.size + 1) (o := exo (hp.objs.size + 1) C none) (h' := PySem.RLX.laid2 C [u] hp) kk hsz (exo_ok hget)
      have hq : spI X.K f [.ref (hp.objs.size + 1), y] (upd H1 (hp.objs.size + 1) (exo (hp.objs.size + 1) C none)) (fun v H2 => v = .non ∧ ∃ d, H2 (hp.objs.size + 1) = some (exo (hp.objs.size + 1) C (some d)) ∧ H2 d = some (exd d [(f, y)]) ∧ H1 d = none ∧
          upd (del H2 (hp.objs.size + 1)) d (.xd [(f, y)]) = upd H1 d (.xd [(f, y)])) E0 := by
        refine ⟨_, C, y, rfl, T, hno, upd_same, fun dx nd ne => ⟨rfl, dx, upd_same, ?_, ?_, ?_⟩⟩
        · rw [upd_ne ne, upd_same]
        · rw [upd_ne ne] at nd
          exact nd
        · funext b
          by_cases hb : b = dx
          · rw [hb, upd_same, upd_same]
          · rw [upd_ne hb, upd_ne hb]
            by_cases hb2 : b = hp.objs.size + 1
            · rw [hb2, del_same, hn]
            · rw [del_ne hb2, upd_ne hb2, upd_ne hb, upd_ne hb2]
      have n1 : ([Value.ref (hp.objs.size + 1), u] ++ []).length = (["self", f] : List Str).length := rfl
      have hbb := hb ⟨PySem.RLX.laid2 C [u] hp, gs, dr, tk, os⟩ [Value.ref (hp.objs.size + 1), u] I2.kIn n1
      have rr2 : Vals [V.ref (hp.objs.size + 1), y] [Value.ref (hp.objs.size + 1), u] := .cons rfl (.cons ry .nil)
      refine wpAny_call (PySem.RLX.run_make FB hT hC li bf (by show 1 ≤ sizeLine; decide) (codeAny_mono (F.run _ X.stack _ _ ⟨[Value.ref (hp.objs.size + 1), u], []⟩ [Value.ref (hp.objs.size + 1), u] _ _ E0 (hr.make C [u] [])
        (I2.env0.make C [u] []) hbb rr2 hq) fun r s' z => ?_))
      cases r with
      | error e => exact z.elim
      | ok fl =>
        cases fl with
        | ret v =>
          obtain ⟨w', H2, os2, bare2, un2, hok2, rv, ev, d, ea, ed, hd1, eH⟩ := z
          subst ev
          obtain ⟨h2, g2, d2, t2, os'⟩ := s'
          obtain ⟨t0, G, J, kG, ge, hoe, na⟩ := mk_end0 (d2 := d2) (t2 := t2) I1 hsz kk un2 hok2 os2 bare2 ea ed hd1
          rw [eH] at J na
          refine ⟨rv, hp.objs.size + 1, _, _, ⟨G, g2, d2, t2, os'⟩, _, .ref C, some d, rfl, J, kG, ge, hoe, ⟨rfl, rfl, fun vs hv => ?_⟩, rfl, rfl, na, rfl, bare2, raises_own T.sub tyC, q1 d hd1⟩
          cases hv
          rfl
        | next => exact z.elim
        | brk => exact z.elim
        | cont => exact z.elim
/-- raise X(e) -/
theorem ps_raiseX {X : Cx} {k : Nat} {C : Addr} {f x : Str} {e : Expr} {te : TE} {p pos pos' : Pos} {W : WX} (M : XM X.prog X.w X.K X.mg X.base k C ["self", f] (spI X.K f)) (tyC : PySem.W.typeIn X.K (.ref C) = some (.type "type")) (hno : PySem.W.findIn X.K (.ref C) f = some none)
    (hr : Room (k + 1) X.A) (hg : Gl X x) (hm : X.mg x = some (.ref C)) (he : PE X e te) (hc : X.calm = true) (tk : L2N.Takes X W) (hdb : (x == ("__debug__" : Str)) = false := by decide) (hst : starEach [e] X.env = (false, eval e X.env) :: starEach [] X.env := by rfl) (hpl : (backTo pos (starEach [] X.env)).any (·.1) = false := by rfl) :
    PS X (.Raise (some (.Call (.Name x p) [e] [] pos)) none pos') (fun _ σ H => te σ H fun y H1 => ∀ d, H1 d = none → W (.ref C) (some d) σ (upd H1 d (.xd [(f, y)]))) :=
  L2N.ps_raise hc tk (pmk_x M tyC hno hr hg hm he hdb hst hpl)
/-! ### defs that raise -/
section
variable {P : Program} {w : World} {K : PySem.W.Frag} {mg : Str → Option Value} {base : Heap}
theorem okN {x qual : Str} {st : Stmt} {f : Addr} {fd : FuncData} {N ps : List Str} {k : Nat} {sp : Sp} (F : Fun K x qual st f fd) (S : FnScope N ps (defScope st)) (len : ∀ vs H Q E, sp vs H Q E → vs.length = ps.length)
    (bd : ∀ (cdv : Value) (A : Around) (outer : List Env) (s : Shared) (H : Hp) (vs : List V) (Q : VK) (E : XK), Room k (A.deeper (envOfC qual (defScope st) s.heap.objs.size f cdv)) → sp vs H Q E →
      ∃ t, PSs (cxOf (L2N.CX P w) P w K mg base N qual (defScope st) f cdv A outer s H E) (defBody st) t ∧ t { nx := fun _ H' => Q .non H', rt := Q } (L2.start N vs) H) : FnOk P w K mg base (L2N.CX P w) (k + 1) f fd ps sp := by
  obtain ⟨oc, od, kV, doc, pm, an, cdv, ct, osl, rfl, lk, hcd⟩ := F.ex
  exact fn_of lk hcd S len fun A outer s H vs Q E hr hsp => bd cdv A outer s H vs Q E hr hsp
end
/-- a def that may raise, as its callers see it -/
structure DfN (P : Program) (w : World) (K : PySem.W.Frag) (mg : Str → Option Value) (base : Heap) (k : Nat) (x : Str) (ps : List Str) (sp : Sp) : Prop where
  ex : ∃ (f : Addr) (fd : FuncData), FnOk P w K mg base (L2N.CX P w) k f fd ps sp ∧ mg x = some (.ref f) ∧ PySem.W.keepIn K (.ref f) = true ∧ Binds K fd ps []
/-- around a call what it lets out is taken -/
theorem passN {X : Cx} {W : WX} {E : XK} (tk : L2N.Takes X W) (hW : ∀ cls d σ H, E cls d H → W cls d σ H) : Passes (L2N.CX X.prog X.w) X E := L2N.passes_call tk hW
section
variable {X : Cx} {k : Nat} {ps : List Str} {sp : Sp} {x : Str} {p pos : Pos} {e : Expr} {es : List Expr} {t : TA} {E : XK}
theorem pe_dfN (D : DfN X.prog X.w X.K X.mg X.base k x ps sp) (hr : Room k X.A) (hg : Gl X x) (hx : Passes (L2N.CX X.prog X.w) X E)
    (ha : PA X (e :: es) t) (hdb : (x == ("__debug__" : Str)) = false := by decide) (he : starEach (e :: es) X.env = (false, eval e X.env) :: starEach es X.env := by rfl) (hpl : (backTo pos (starEach es X.env)).any (·.1) = false := by rfl) :
    PE X (.Call (.Name x p) (e :: es) [] pos) (tCall sp [] E t) := by
  obtain ⟨f, fd, G, hm, hk, hb⟩ := D.ex
  exact pe_call G hr hg hm hk hb .nil hx ha hdb he hpl
end
/-! ### the lambda -/
section
variable {X : Cx} {pins : List (Addr × Obj)} {σ : L2.St} {H HZ : Hp} {s s1 : Shared}
/-- what is wished of an exception that leaves the lambda's body -/
abbrev lamXe (X : Cx) (A : Around) (outer : List Env) (s : Shared) (H : Hp) (E : XK) (scope : Scope) (f c' : Addr) : Value → Shared → Prop := fun e s' =>
  wpAny (model X.prog X.w) (A.deeper (LamX.lamEnv X scope s.heap.objs.size f c')) (leaving (LamX.lamEnv X scope s.heap.objs.size f c') e) (fun _ s'' => L2N.CX X.prog X.w outer H s E e s'') (fun e' s'' => L2N.CX X.prog X.w outer H s E e' s'') s'
abbrev lamN (X : Cx) (A : Around) (outer : List Env) (s : Shared) (H : Hp) (E : XK) (scope : Scope) (f c' : Addr) : Cx := (LamX.lamCx X A outer s H E scope f c').tr [] (lamXe X A outer s H E scope f c')
theorem lamN_takes {A : Around} {outer : List Env} {E : XK} {scope : Scope} {f c' : Addr} : L2N.Takes (lamN X A outer s H E scope f c') (fun cls d _ H' => E cls d H') := L2N.takes_of rfl rfl rfl rfl
/-- a(), in the def that got the lambda -/
theorem pe_actN {CXg : CXT} {Eg : XK} {Ng : List Str} {qg : Str} {sg : Scope} {g f c' : Addr} {cdg pm ctv : Value} {params : Arguments} {body : Expr} {scope : Scope} {k i : Nat} {a : Str} {pn : List (Addr × Obj)} {xe : Value → Shared → Prop} {W : WX} {E : XK} {tb : TE} {p1 p2 : Pos}
    (I : Inv X pins σ H s) (L : LamX.LamS X.env.scope scope) (hf : s.heap.get? f = some (PySem.W.kla_obj "<lambda>" (X.env.qual ++ "<lambda>") params body scope (cloFrom X.env.cells scope.names []) pm c' ctv)) (hfn : H f = none) (hfr : f ∉ frs X.stack)
    (hbind : bindArgs (PySem.W.kla_fn "<lambda>" (X.env.qual ++ "<lambda>") params body scope (cloFrom X.env.cells scope.names []) pm (.ref c') ctv) ⟨[], []⟩ = pure [])
    (tk : L2N.Takes ((cxOf CXg X.prog X.w X.K X.mg X.base Ng qg sg g cdg X.A X.stack s H Eg).tr pn xe) W) (hr : Room (k + 1) (X.A.deeper (envOfC qg sg s.heap.objs.size g cdg)))
    (hbody : ∀ (A : Around) (outer : List Env) (s : Shared) (H : Hp), A.guards = X.A.guards → Room k (A.deeper (LamX.lamEnv X scope s.heap.objs.size f c')) → PE (lamN X A outer s H E scope f c') body tb)
    (hN : Ng[i]? = some a) (hv : Vis sg a) (hd : (a == ("__debug__" : Str)) = false := by decide) (hcd : (a == ("__classdict__" : Str)) = false := by decide) :
    PE ((cxOf CXg X.prog X.w X.K X.mg X.base Ng qg sg g cdg X.A X.stack s H Eg).tr pn xe) (.Call (.Name a p1) [] [] p2)
      (fun σZ HZ Q => σZ[i]? = some (some (.ref f)) ∧ HZ c' = some (LamX.CodeO c' (X.env.qual ++ "<lambda>")) ∧ (∀ cls d H', E cls d H' → W cls d σZ H') ∧ tb σ HZ Q) := by
  refine ⟨fun pinsZ sZ σZ HZ Q IZ ⟨hs, hc, hW, ht⟩ => ?_⟩
  refine wpAny_Call_Name_kw (thn ((pe_var (pos := p1) (i := i) hN hv hd hcd).run pinsZ sZ σZ HZ (fun v H1 => v = .ref f ∧ H1 = HZ) IZ ⟨.ref f, hs, rfl, rfl⟩) fun u s1 ⟨v, H1, I1, r1, ev, eH⟩ => ?_)
  subst ev
  rw [eH] at I1
  cases (show u = Value.ref f from r1)
  have of1 := I1.base.keep f _ hf hfn hfr (fun z => nomatch (show f ∈ ([] : List Addr) from z))
  refine PySem.W.callWith_F0 ⟨_, _, _, _, of1⟩ ?_
  obtain ⟨⟨oc, vs, t, hoc, hdc, hvc⟩, _, _⟩ := I1.hok c' _ hc
  have rc : codeAny (model X.prog X.w) (X.A.deeper (envOfC qg sg s.heap.objs.size g cdg)) (.call (.ref f) ⟨[], []⟩) (CR (L2N.CX X.prog X.w) (envOfC qg sg s.heap.objs.size g cdg :: X.stack) X.prog X.w HZ s1 Q E) s1 := by
    refine PySem.W.kla_callFunE hr.depth of1 rfl L.co L.gen rfl ⟨c', oc, vs, t, rfl, hoc, hdc, hvc⟩ ?_
    rw [hbind]
    refine wpAny_pure (wpAny_newFunctionEnv (fun y hy => (L.own y hy).2) (fun y hy => absurd hy (by simp)) (fun h₁ hns hsb => ⟨I1.nolimit.fresh _ hsb, ?_⟩) L.kind)
    show codeAny _ _ (.expr body (LamX.lamEnv X scope s1.heap.objs.size f c')) _ _
    have kp : ∀ b o, s1.heap.get? b = some o → h₁.get? b = some o := fun b o e => hsb.extBut b o (Nat.ne_of_lt (Heap.lt_size e)) (Heap.get?_push_of_some _ e)
    have J := LamX.lam_start2 (E := E) (tk := s1.toks + ([] : List (Str × Value)).length) (c' := c') (f := f) I L I1.env0 hr.hd I1.base hns kp
    refine PySem.W.kla_codeExpr (wpAny_mono ((hbody (X.A.deeper (envOfC qg sg s.heap.objs.size g cdg)) _ s1 HZ rfl (hr.deeper _)).run [] _ _ HZ Q (J.toTry _) ht) (fun v s' hq => ?_) fun e s' hq => hq)
    obtain ⟨w', H', J', rv, q⟩ := hq
    exact ⟨w', H', J'.os, J'.bare, J'.base, J'.hok, rv, q⟩
  refine wpAny_call (codeAny_mono rc fun r s' hq => ?_)
  cases r with
  | error e => exact tk e s' (L2N.XE.of_call I1 hW hq)
  | ok fl =>
    cases fl with
    | ret u => exact I1.after hq
    | next => exact False.elim hq
    | brk => exact False.elim hq
    | cont => exact False.elim hq
end
/-- the def that calls what it got -/
def GivesN (X : Cx) (k : Nat) (Ng : List Str) (x : Str) (sg : Scope) (g : Addr) (cdg : Value) (bg : List Stmt) (a : Str) (q : Str) (TT : (XK → Hp → VK → Prop) → Hp → VK → Prop) : Prop :=
  ∀ (f c' : Addr) (s : Shared) (H : Hp) (Q : VK) (tl : XK → Hp → VK → Prop), Room (k + 1) (X.A.deeper (envOfC x sg s.heap.objs.size g cdg)) →
    (∀ (W : WX) (pn : List (Addr × Obj)) (xe : Value → Shared → Prop) (E : XK) (p1 p2 : Pos), L2N.Takes ((cxOf CX0 X.prog X.w X.K X.mg X.base Ng x sg g cdg X.A X.stack s H E0).tr pn xe) W →
      PE ((cxOf CX0 X.prog X.w X.K X.mg X.base Ng x sg g cdg X.A X.stack s H E0).tr pn xe) (.Call (.Name a p1) [] [] p2) (fun σZ HZ Q => σZ[0]? = some (some (.ref f)) ∧ HZ c' = some (LamX.CodeO c' q) ∧ (∀ cls d H', E cls d H' → W cls d σZ H') ∧ tl E HZ Q)) →
    H c' = some (LamX.CodeO c' q) → TT tl H Q →
    ∃ t, PSs (cxOf CX0 X.prog X.w X.K X.mg X.base Ng x sg g cdg X.A X.stack s H E0).nox bg t ∧ t { nx := fun _ H' => Q .non H', rt := Q } (L2.start Ng [.ref f]) H
section
variable {X : Cx}
/-- x(lambda: body) -/
theorem pe_lamN {T : List (Addr × Str)} {TT : (XK → Hp → VK → Prop) → Hp → VK → Prop} {x a : Str} {g c P : Addr} {k : Nat} {pg : Arguments} {bg : List Stmt} {sg : Scope} {dV kV doc pm cdv ct oc : Value} {an od : Option Addr} {osl : Array (Option Value)} {Ng : List Str}
    {params : Arguments} {body : Expr} {scope : Scope} {t : XK → TE} {p lpos pos : Pos} (hg : Gl X x) (hm : X.mg x = some (.ref g)) (hk : PySem.W.keepIn X.K (.ref g) = true)
    (lk : X.K.lookup g = some ⟨oc, od, .func (PySem.W.fnOf x x pg bg sg dV kV doc pm an cdv ct), osl⟩) (hcg : PySem.W.codeIn X.K cdv x = true) (hb : L2.Binds X.K (PySem.W.fnOf x x pg bg sg dV kV doc pm an cdv ct) [a] []) (Sg : FnScope Ng [a] sg) (hNg : Ng[0]? = some a) (hva : Vis sg a)
    (hG : GivesN X k Ng x sg g cdv bg a (X.env.qual ++ "<lambda>") TT)
    (TB : LamX.TabB X.base X.mg c P) (hcode : X.env.code = .ref c) (hmT : (P, X.env.qual ++ "<lambda>") ∈ T) (hu : ∀ p ∈ T, p.1 = P → p.2 = X.env.qual ++ "<lambda>") (hr : Room (k + 2) X.A) (L : LamX.LamS X.env.scope scope) (hdef : defaultsOf params X.env = ([], []))
    (hbind : ∀ (q : Str) (cl : List (Str × Addr)) (pm cv ctv : Value), bindArgs (PySem.W.kla_fn "<lambda>" q params body scope cl pm cv ctv) ⟨[], []⟩ = pure [])
    (hbody : ∀ (A : Around) (outer : List Env) (s : Shared) (H : Hp) (E : XK) (f c' : Addr), A.guards = X.A.guards → Room k (A.deeper (LamX.lamEnv X scope s.heap.objs.size f c')) → PE (lamN X A outer s H E scope f c') body (t E))
    (hdb : (x == ("__debug__" : Str)) = false := by decide) (hd : (a == ("__debug__" : Str)) = false := by decide) (hcd : (a == ("__classdict__" : Str)) = false := by decide) :
    PE X (.Call (.Name x p) [.Lambda params body scope lpos] [] pos) (LamX.tLam T TT t) := by
  refine ⟨fun pins s σ H Q I ⟨hT, h⟩ => wpAny_Call_Name_kw (ld_glob I hg hm (PySem.W.callWith_K (h₀ := X.base) I.ok.mod.kin hk ?_ (by rfl) (by rfl)) hdb)⟩
  show wpAny _ _ (spliced ((false, eval (.Lambda params body scope lpos) X.env) :: backTo pos (starEach [] X.env))) _ _ s
  refine Calls.spliced_cons (LamX.lam_make2 I TB hcode hmT hu hT hdef (L.has I.ok) fun f c' pm' ctv H1 s' I1 eN T1 hf hfn hfr hco => Calls.spliced_nil ⟨I1.kIn, ?_⟩)
  have rc : codeAny (model X.prog X.w) X.A (.call (.ref g) ⟨[.ref f], []⟩) (CR CX0 X.stack X.prog X.w H1 s' Q E0) s' := by
    refine LamX.run_ofS (N := Ng) (ps := [a]) (us := [.ref f]) (vs := [.ref f]) lk hcg Sg hr I1.env0 (hb s' [.ref f] I1.kIn rfl) (.cons rfl .nil) rfl fun hr' => ?_
    obtain ⟨t', ht', hq'⟩ := hG f c' s' H1 Q (fun E H' Q' => t E σ H' Q') hr' (fun W pn xe E p1 p2 tk => pe_actN (i := 0) I1 L hf hfn hfr (hbind _ _ _ _ _) tk hr' (fun A outer s H hgd hr2 => hbody A outer s H E f c' hgd hr2) hNg hva hd hcd) hco (h H1 eN T1)
    exact ⟨t', ht'.nox, hq'⟩
  refine wpAny_call (codeAny_mono rc fun r s2 hq => ?_)
  cases r with
  | error e => exact (show False from hq).elim
  | ok fl =>
    cases fl with
    | ret u => exact I1.after hq
    | next => exact False.elim hq
    | brk => exact False.elim hq
    | cont => exact False.elim hq
end
end RL

set_option maxHeartbeats 2000000
/-! star parameters of defs that may raise -/
namespace RL
open PySem L2 PySem.Spec PyProof.Rows
theorem cxUpN {P : Program} {w : World} : StX.CXUp (L2N.CX P w) := by
  intro outer s H s2 H2 E e s' un kp ho h
  obtain ⟨a, B, H', cls, d, ea, fl, hok, ub, na, os, ag, he⟩ := h
  have ub' : UB (frs outer) H H' s.heap B s'.heap := by
    constructor
    case keep => exact fun b o q n hb => ub.keep b o (kp b o q) (un.free b o q n (by simp)) hb
    case slot => exact fun b o q hb => ub.slot b o (kp b o q) hb
    case free => exact fun b o q n => ub.free b o (kp b o q) (un.free b o q n (by simp))
    case there => exact fun b o q hb => ub.there b o (kp b o q) hb
    case tups => exact fun b xs q => ub.tups b xs (un.tups b xs q)
    case frzs => exact fun b o xs q => ub.frzs b o xs (un.frzs b o xs q)
    case tbls =>
      intro b ps q
      obtain ⟨m1, e1⟩ := un.tbls b ps q
      obtain ⟨m2, e2⟩ := ub.tbls b _ e1
      exact ⟨m1 ++ m2, by rw [e2, Array.append_assoc]⟩
  exact ⟨a, B, H', cls, d, ea, fl, hok, ub', na, os.trans ho, ag, he⟩
end RL

set_option maxHeartbeats 2000000
/-! Values of many kinds: what isinstance says of them; what they show. -/
namespace RL
open PySem L2 PySem.Spec PyProof.Rows
def tyN : PyData → String
  | .none => "NoneType"
  | .bool _ => "bool"
  | .int _ => "int"
  | .str _ => "str"
  | .list _ => "list"
  | .tuple _ => "tuple"
  | .dict _ => "dict"
theorem ty_dp {K : PySem.W.Frag} {H : Hp} {v : V} {d : PyData} (h : Dp K H v d) : TyX K H v (.type (tyN d)) := by
  cases h with
  | non => exact .base .non
  | bl b => exact .base (.bl b)
  | int i => exact .base (.int i)
  | str x => exact .base (.str x)
  | lst a b =>
    rcases a with (a | ⟨o, a⟩) | ⟨o, its, n, e, c, r⟩
    · exact .base (.lst a)
    · exact .base (.frz a)
    · exact .kList e c
  | tup a b =>
    rcases a with (a | ⟨o, a⟩) | ⟨o, its, n, e, c, r⟩
    · exact .base (.tup a)
    · exact .fTuple a
    · exact .kTuple e c
theorem ty_dq {K : PySem.W.Frag} {H : Hp} {v : V} {d : PyData} (h : Dq K H v d) : TyX K H v (.type (tyN d)) := by
  cases h with
  | dp a b => exact ty_dp a
  | dk a => exact .base (.dK a)
def isIntD : PyData → Bool
  | .int _ => true
  | _ => false
def isTupD : PyData → Bool
  | .tuple _ => true
  | _ => false
def isStrD : PyData → Bool
  | .str _ => true
  | _ => false
def intOrBool : PyData → Bool
  | .int _ => true
  | .bool _ => true
  | _ => false
def isBoolD : PyData → Bool
  | .bool _ => true
  | _ => false
theorem kit_int {K : PySem.W.Frag} (d : PyData) : PySem.W.kitOne K (.type (tyN d)) (.type "int") = some (intOrBool d) := by
  cases d <;> (simp only [tyN, intOrBool]; exact kit_ty (by decide +kernel))
theorem kit_bool {K : PySem.W.Frag} (d : PyData) : PySem.W.kitOne K (.type (tyN d)) (.type "bool") = some (isBoolD d) := by
  cases d <;> (simp only [tyN, isBoolD]; exact kit_ty (by decide +kernel))
theorem kit_tup {K : PySem.W.Frag} (d : PyData) : PySem.W.kitOne K (.type (tyN d)) (.type "tuple") = some (isTupD d) := by
  cases d <;> (simp only [tyN, isTupD]; exact kit_ty (by decide +kernel))
theorem kit_str {K : PySem.W.Frag} (d : PyData) : PySem.W.kitOne K (.type (tyN d)) (.type "str") = some (isStrD d) := by
  cases d <;> (simp only [tyN, isStrD]; exact kit_ty (by decide +kernel))
def withinD (d : PyData) (lo hi : Int) : Bool := match d with
  | .int i => decide (lo ≤ i) && decide (i ≤ hi)
  | _ => false
def pairD : PyData → Bool
  | .tuple [a, b] => isIntD a && isIntD b
  | _ => false
/-- what is a resistance -/
def resD : PyData → Bool
  | .int i => decide (0 ≤ i) && decide (i ≤ 1000000000000)
  | .tuple [.int a, .int b] => decide (a = 1 ∧ b = 0) || (decide (0 ≤ a) && decide (a ≤ 1000000000000) && (decide (1 ≤ b) && decide (b ≤ 1000000000000)))
  | _ => false
/-- a promise that asks more of its callers -/
theorem FnOk.weak {P : Program} {w : World} {K : PySem.W.Frag} {mg : Str → Option Value} {base : Heap} {CX : CXT} {k : Nat} {f : Addr} {fd : FuncData} {ps : List Str} {sp sp' : Sp} (F : FnOk P w K mg base CX k f fd ps sp) (h : ∀ vs H Q E, sp' vs H Q E → sp vs H Q E) : FnOk P w K mg base CX k f fd ps sp' :=
  ⟨fun vs H Q E q => F.len vs H Q E (h _ _ _ _ q), fun A outer s H args us vs Q E hr e0 hb r q => F.run A outer s H args us vs Q E hr e0 hb r (h _ _ _ _ q)⟩
end RL

set_option maxHeartbeats 1000000
/-! x in [..] where x is an own object with its own __eq__ and the items are None and integers: no item is equal to it. -/
namespace RIn
open PySem PySem.SeqAt
open AutoSeq1 (wpAny_loadPart')
open MeetsSeq MeetsSeq2 MeetsSeq3 SeqRoads2
section
variable {prog : Program} {w : World} {A : Around} {R : Result → Shared → Prop}
/-- at each turn the list is read anew: N items, none equal to x -/
def ListN (prog : Program) (w : World) (A : Around) (E : Value → Shared → Prop) (l : Addr) (x : Value) (N : Nat) (I : Shared → Prop) : Prop :=
  ∀ s, I s → ∃ (items : Array Value) (n : Nat), s.heap.get? l = some { cls := .type "list", data := .seq items n } ∧ items.size = N ∧
    ∀ (i : Nat) (h : i < items.size), wpAny (model prog w) A.in1 (eqBool items[i] x) (fun r s' => r = false ∧ I s') E s
theorem cont_loopG (l : Addr) (x : Value) (N : Nat) (I : Shared → Prop) (hl : ListN prog w A (fun e s' => R (.error e) s') l x N I) (fin : ∀ s, I s → R (.ok (.ret (.bool false))) s) (k : Nat) :
    ∀ i : Nat, N - i = k → ∀ s, I s → wpAny (model prog w) A.in1 (Builtin.«list.__contains__.loop» ⟨[.ref l, x, rawInt i], []⟩) (GQ.FinOf prog w A R) (fun e s' => R (.error e) s') s := by
  induction k with
  | zero =>
    intro i hk s h
    obtain ⟨items, n, h1, hN, _⟩ := hl _ h
    have hR := fin s h
    obtain ⟨hp, g, d, tk, os⟩ := s
    wp_walk using wpAny_loadPart' h1
    have hi : items[((i : Nat) : Int).toNat]? = none := by simp; omega
    rw [hi]
    wp_walk
    exact hR
  | succ k ih =>
    intro i hk s h
    obtain ⟨items, n, h1, hN, turn⟩ := hl _ h
    have hlt : i < items.size := by omega
    have ht := turn i hlt
    obtain ⟨hp, g, d, tk, os⟩ := s
    wp_walk using wpAny_loadPart' h1
    have hi : items[((i : Nat) : Int).toNat]? = some items[i] := by simp [hlt]
    rw [hi]
    refine wpAny_bind (wpAny_mono ht (fun r s2 h2 => ?_) fun _ _ x => x)
    obtain ⟨hr, h2⟩ := h2
    subst hr
    have hc : ((i : Int) + 1) = ((i + 1 : Nat) : Int) := by omega
    have hrec := ih (i + 1) (by omega) s2 h2
    obtain ⟨hp2, g2, d2, tk2, os2⟩ := s2
    wp_walk
    rw [hc]
    exact ⟨plainId_quiet plain_contains_loop _, codeAny_builtin entry_contains_loop (by
      rw [Around.under_plainId plain_contains_loop _]
      exact hrec)⟩
theorem list_contG (l : Addr) (x : Value) (N : Nat) (I : Shared → Prop) (hl : ListN prog w A (fun e s' => R (.error e) s') l x N I) (fin : ∀ s, I s → R (.ok (.ret (.bool false))) s) {s : Shared} (h : I s) :
    wpAny (model prog w) A.in1 (Builtin.«list.__contains__» ⟨[.ref l, x], []⟩) (GQ.FinOf prog w A R) (fun e s' => R (.error e) s') s := by
  obtain ⟨items, n, h1, hN, _⟩ := hl _ h
  have hrec := cont_loopG (A := A) (R := R) l x N I hl fin _ 0 rfl s h
  obtain ⟨hp, g, d, tk, os⟩ := s
  wp_walk using wpAny_loadPart' h1
  exact ⟨plainId_quiet plain_contains_loop _, codeAny_builtin entry_contains_loop (by
    rw [Around.under_plainId plain_contains_loop _]
    exact hrec)⟩
end
section
variable {prog : Program} {w : World} {A : Around} {E : Value → Shared → Prop} {s : Shared}
theorem in_contG {l : Addr} {x : Value} {N : Nat} {Q : Value → Shared → Prop} (I : Shared → Prop) (hl : ListN prog w A E l x N I)
    (fin : ∀ s, I s → Q (.bool false) s) (h : I s) : wpAny (model prog w) A (compareOp .In x (.ref l)) Q E s := by
  obtain ⟨items, n, h1, hN, _⟩ := hl _ h
  show wpAny _ A (do return .bool (← contains (.ref l) x)) Q E s
  refine wpAny_bind (wpAny_contains_slot ⟨_, h1, rfl⟩ F.slot_list_contains (GQ.call_here F.slot_list_contains ⟨_, h1, rfl⟩ F.entry_list_contains (F.args_list_contains_2 _ _) ?_))
  exact list_contG (R := wants _ E) l x N I hl (fun s' q => wpAny_truthy_bool (wpAny_pure (fin s' q))) h
theorem int_eq_declines_ins (b : Int) (u : Tok) (l C dx : Addr) :
    Meets (Builtin.«int.__eq__» ⟨[.int b u, .ref l], []⟩) (fun _ R s => s.heap.get? l = some (PySem.W.instObj C dx) ∧ R (.ok (.ret .notImplemented)) s) :=
  .of_wp fun prog w A R s h => by obtain ⟨hp, g, d, tk, os⟩ := s; obtain ⟨hl, h⟩ := h; unfold PySem.W.instObj at hl; wp_walk using wpAny_loadPart' hl, wpAny_load hl; exact ⟨_, rfl, h⟩
theorem eqBool_nonG {l : Addr} {Q : Bool → Shared → Prop} (h : wpAny (model prog w) A (richCompare .Eq .none (.ref l)) (fun v s' => ∃ r, v = .bool r ∧ Q r s') E s) : wpAny (model prog w) A (eqBool .none (.ref l)) Q E s := by
  unfold eqBool
  refine wpAny_holding ?_
  refine wpAny_ite_split (fun hab => absurd (eq_of_beq hab) (fun z => by cases z)) (fun _ => ?_)
  show wpAny _ _ (richCompare .Eq Value.none (.ref l) >>= fun v => truthOfDropped v) Q E s
  refine wpAny_bind (wpAny_mono h (fun v s' hv => ?_) fun _ _ x => x)
  obtain ⟨r, rfl, q⟩ := hv
  exact wpAny_truthy_bool q
theorem eqBool_intG {b : Int} {t : Tok} {l : Addr} {Q : Bool → Shared → Prop} (h : wpAny (model prog w) A (richCompare .Eq (.int b t) (.ref l)) (fun v s' => ∃ r, v = .bool r ∧ Q r s') E s) : wpAny (model prog w) A (eqBool (.int b t) (.ref l)) Q E s := by
  unfold eqBool
  refine wpAny_holding ?_
  refine wpAny_ite_split (fun hab => absurd (eq_of_beq hab) (fun z => by cases z)) (fun _ => ?_)
  show wpAny _ _ (richCompare .Eq (Value.int b t) (.ref l) >>= fun v => truthOfDropped v) Q E s
  refine wpAny_bind (wpAny_mono h (fun v s' hv => ?_) fun _ _ x => x)
  obtain ⟨r, rfl, q⟩ := hv
  exact wpAny_truthy_bool q
end
end RIn
namespace PySem.W
open PySem PySem.Calls PyProof.Rows
section
variable {prog : Program} {w : World} {A : Around} {E : Value → Shared → Prop} {s : Shared} {K : Frag} {x C L f : Addr} {h₀ : Heap} {m : Str → Option Value} {ox : Obj} {od : Option Obj} {T id : String} {y : Value}
/-- y == x where y is of a builtin type that declines, and x is an own object -/
theorem cmp_KR {Q : Value → Shared → Prop} (hu : A.units < cLine) (F : Fr h₀ L s.heap m) (X₀ : K.In h₀) (I : InstAt s.heap x ox C od) (hy : s.TypeIs y T) (slot : Slot T "__eq__" id) (hn : subIn K (.ref C) (.type T) = some false)
    (hdec : wpAny (model prog w) A (call (.builtin id) [y, .ref x]) (fun v s' => v = .notImplemented ∧ s' = s) E s)
    (hs : findIn K (.ref C) "__eq__" = some (some (.ref f))) (hf : isFn K (.ref f) = true)
    (h : wpAny (model prog w) A (call (.ref f) [.ref x, y]) (CmpBack Q) E s) : wpAny (model prog w) A (richCompare .Eq y (.ref x)) Q E s := by
  have X := X₀.keeps F.keep
  have one : wpAny (model prog w) A (tryCompare (.ref x) "__eq__" y) (fun r s' => ∃ v, r = some v ∧ Q v s') E s := by
    unfold tryCompare
    refine wpAny_bind (ifBound_K X I hs hf (wpAny_mono h (fun v s' hv => ?_) fun _ _ e => e))
    cases v <;> first | exact hv.elim | exact wpAny_pure ⟨_, rfl, hv⟩
  unfold richCompare
  simp only [hy.oneThing_none, cmpInfo]
  refine wpAny_holding (wpAny_bind (wpAny_cRoomFor hu ?_))
  refine wpAny_bind (wpAny_typeOf hy (wpAny_bind (I.type.here ?_)))
  have hne : (Value.type T != Value.ref C) = true := rfl
  simp only [hne, if_true]
  refine wpAny_bind ((looks_subIn X hn).here ?_)
  simp only [Bool.false_eq_true, if_false, Bool.not_false, if_true]
  refine wpAny_bind (m := tryCompare y _ (.ref x)) (wpAny_tryCompare_declines hy slot (wpAny_mono hdec (fun v s₁ h₁ => ?_) fun _ _ e => e))
  obtain ⟨h1, h2⟩ := h₁
  subst h2
  refine ⟨h1, ?_⟩
  refine wpAny_bind (wpAny_mono one (fun r s' z => ?_) fun _ _ e => e)
  obtain ⟨v, rfl, hq⟩ := z
  exact wpAny_pure hq
end
end PySem.W
namespace RL
open PySem L2 PySem.Spec PyProof.Rows
section
variable {X : Cx} {k : Nat} {ps : List Str} {sp : Sp} {C g : Addr} {fd : FuncData}
def NonInt (v : V) : Prop := v = .non ∨ ∃ i, v = .int i
def rInOwnL (C : Addr) (sp : Sp) : R2 := fun x y H Q => ∃ a dx fs l ys, x = .ref a ∧ y = .ref l ∧ H a = some (.ins C dx fs) ∧ H l = some (.lst ys) ∧ (∀ v ∈ ys, NonInt v) ∧
  (∀ v H', NonInt v → Ext H H' → sp [x, v] H' (fun z H2 => z = .bl false ∧ Ext H' H2) E0) ∧ ∀ H', Ext H H' → Q (.bl false) H'
theorem op_inOwnL (hs : PySem.W.findIn X.K (.ref C) "__eq__" = some (some (.ref g))) (hf : PySem.W.isFn X.K (.ref g) = true) (Fn : FnOk X.prog X.w X.K X.mg X.base CX0 k g fd ps sp) (hb : Binds X.K fd ps [])
    (h1 : PySem.W.subIn X.K (.ref C) (.type "NoneType") = some false) (h2 : PySem.W.subIn X.K (.ref C) (.type "int") = some false) (hr : Room (k + 1) X.A) :
    OpR X (compareOp .In) (rInOwnL C sp) := by
  intro pins s σ H x y v u Q I rx ry h
  obtain ⟨a, dx, fs, l, ys, rfl, rfl, ha, hl, hall, hsp, q⟩ := h
  cases rx
  cases ry
  refine RIn.in_contG (N := ys.length) (fun s' => LoopI X pins σ H s') (fun s' z => ?_) (fun s' z => ?_) ⟨H, I, Ext.rfl'⟩
  · obtain ⟨H1, I1, e1⟩ := id z
    obtain ⟨_, its, n, r, e⟩ := I1.hok l _ (e1 _ _ hl)
    refine ⟨its.toArray, n, e, by rw [List.size_toArray, ← r.length], fun i hi => ?_⟩
    have g1 : its[i]? = some its.toArray[i] := by
      have h1' : i < its.length := by simpa using hi
      rw [List.getElem?_eq_getElem h1'] <;> simp
    have k1 : i < ys.length := by rw [r.length]; simpa using hi
    obtain ⟨w, hw, rw'⟩ := r.get (List.getElem?_eq_getElem k1)
    rw [g1] at hw
    rw [Option.some.inj hw]
    have hv := hall _ (List.mem_of_getElem? (List.getElem?_eq_getElem k1))
    generalize ys[i] = vv at *
    obtain ⟨mA, J, _⟩ := ins_get I1.hok (e1 _ _ ha)
    have hx := J.obj
    obtain ⟨od, J, _⟩ := J.look
    obtain ⟨m, hF⟩ := I1.fr
    have own : ∀ {w : Value}, RelV vv w → wpAny (model X.prog X.w) X.A.in1 (call (.ref g) [.ref a, w]) (PySem.W.CmpBack fun v s' => ∃ r, v = .bool r ∧ r = false ∧ LoopI X pins σ H s') X.xe s' := fun {w} rw => by
      have q0 := hsp vv H1 hv e1
      have e0 : Env0 X.prog X.w X.K X.mg X.base X.A.in1 X.stack s' H1 := by
        have e := I1.env0
        exact ⟨e.frames, e.mod, e.bs, e.bsz, e.funs, e.frf, e.hok, e.bare⟩
      have hl := Fn.len _ _ _ _ q0
      have r2 : Vals [V.ref a, vv] [Value.ref a, w] := .cons rfl (.cons rw .nil)
      refine wpAny_call (codeAny_mono (Fn.run X.A.in1 X.stack s' H1 ⟨[.ref a, w], []⟩ [.ref a, w] [.ref a, vv] _ E0 hr.in1 e0 (by
        have := hb s' [.ref a, w] I1.kIn (by simpa using hl)
        simpa using this) r2 q0) fun r s2 hq => ?_)
      cases r with
      | error e =>
        obtain ⟨_, _, _, _, _, _, _, _, _, _, _, _, _, h8⟩ := hq
      | ok fl =>
        cases fl with
        | ret w =>
          obtain ⟨z, H', I', rz, ez, ex⟩ := I1.after hq
          subst ez
          cases rz
          exact ⟨false, rfl, rfl, H', I', e1.trans ex⟩
        | next => exact False.elim hq
        | brk => exact False.elim hq
        | cont => exact False.elim hq
    rcases hv with rfl | ⟨j, rfl⟩
    · obtain rfl : w = Value.none := rw'
      refine RIn.eqBool_nonG (PySem.W.cmp_KR hr.in1.units0 hF I1.ok.mod.kin J rfl F.slot_NoneType_eq h1 ?_ hs hf (own rfl))
      exact call_gives F.slot_NoneType_eq rfl F.entry_NoneType_eq (F.args_NoneType_eq_2 _ _) (SeqAt.NoneType___eq___none_ref_0 a) ⟨rfl, rfl⟩
    · obtain ⟨t, rfl⟩ : ∃ t, w = Value.int j t := rw'
      refine RIn.eqBool_intG (PySem.W.cmp_KR hr.in1.units0 hF I1.ok.mod.kin J (typeIs_int _ _ _) F.slot_int_eq h2 ?_ hs hf (own ⟨t, rfl⟩))
      exact call_meets F.slot_int_eq (typeIs_int _ _ _) F.entry_int_eq (F.args_int_eq_2 _ _) (RIn.int_eq_declines_ins j t a C dx) ⟨hx, rfl, rfl⟩
  · obtain ⟨H1, I1, e1⟩ := z
    exact ⟨.bl false, H1, I1, rfl, q _ e1⟩
end
end RL

set_option maxHeartbeats 1000000
/-! bool(a tuple), bool(o) by an own __bool__ -/
namespace RBo
open PySem PySem.Spec PyProof.Rows
section
variable {prog : Program} {w : World} {A : Around} {E : Value → Shared → Prop} {s : Shared}
/-- bool(x), where the truth of x is known two levels below -/
theorem bool_by {x : Value} {Q : Value → Shared → Prop} (h : wpAny (model prog w) A.in1.in1 (truthy x) (fun b s' => Q (.bool b) s') E s) : wpAny (model prog w) A (call (.type "bool") [x]) Q E s := by
  refine callType_codes (T := "bool") (Bi := Builtin.«object.__init__») (Q₁ := fun r s₁ => ∃ b, r = Value.bool b ∧ Q r s₁) PySem.F.called_bool (PySem.F.typeCall_bool_1 _) PySem.F.entry_object_init ?_ ?_
  · refine codeAny_of_tree ?_
    show wpAny _ A.in1.in1 (do checkBuiltinCall "bool.__new__" ⟨[.type "bool", x], []⟩; again (.builtin "bool.__new__" ⟨[.type "bool", x], []⟩)) _ _ s
    refine wpAny_bind (wpAny_of_eq (PySem.F.newCall_bool_1 _) (wpAny_pure ⟨plainId_quiet (by decide +kernel) _, codeAny_builtin PySem.F.entry_bool_new ?_⟩))
    rw [Around.under_plainId (by decide +kernel) _]
    have f1 := F.conv_sub_bool
    obtain ⟨hp, g, d, tk, os⟩ := s
    repeat (any_goals (first | assumption | (with_reducible refine wpAny_mono h ?_ ?_) | wp_step))
    · exact fun a s hq => wpAny_pure ⟨a, rfl, hq⟩
    · exact fun e s he => he
  · rintro obj s₁ ⟨b, rfl, hq⟩
    exact ⟨rfl, PySem.F.args_object_init_2 _ _, object_init_meets PySem.F.called_bool.init.lookup PySem.F.called_bool.made (by decide) prog w A.in1 _ s₁ ⟨rfl, rfl, hq⟩⟩
end
end RBo
namespace RL
open PySem L2 PySem.Spec PyProof.Rows
section
variable {X : Cx} {k : Nat} {ps : List Str} {sp : Sp} {C g : Addr} {fd : FuncData}
theorem call_boolT : CallR X (.type "bool") (fun xs H Q => ∃ (a : Addr) (zs : List V), xs = [.ref a] ∧ SqT X.K H a zs ∧ Q (.bl (!zs.isEmpty)) H) := by
  intro pins s σ H xs us Q I r h
  obtain ⟨a, zs, rfl, hq, q⟩ := h
  obtain rfl := Vals.ref1 r
  obtain ⟨its, rv, pl, hz⟩ := I.tuple hq
  have hl := line63
  have hlen := rv.length
  have hs : sizeLine = 16777216 := sizeLine_eq
  refine RBo.bool_by (truthy_tuple pl (by simp only [List.size_toArray]; omega) ?_)
  exact ⟨.bl (!zs.isEmpty), H, I.tok _, by rw [isEmpty_of rv]; rfl, q⟩
def rBoolOwn (C : Addr) (sp : Sp) : List V → Hp → VK → Prop := fun xs H Q => ∃ a dx fs, xs = [V.ref a] ∧ H a = some (.ins C dx fs) ∧ sp [.ref a] H (fun z H' => ∃ b, z = .bl b ∧ Q (.bl b) H') E0
theorem cr_boolOwn (hs : PySem.W.findIn X.K (.ref C) "__bool__" = some (some (.ref g))) (hf : PySem.W.isFn X.K (.ref g) = true) (Fn : FnOk X.prog X.w X.K X.mg X.base CX0 k g fd ps sp) (hb : Binds X.K fd ps []) (hr : Room (k + 2) X.A) : CallR X (.type "bool") (rBoolOwn C sp) := by
  intro pins s σ H vs us Q I r h
  obtain ⟨a, dx, fs, rfl, ha, q⟩ := h
  rw [Vals.ref1 r]
  obtain ⟨mA, O, _⟩ := ins_get I.hok ha
  obtain ⟨od, J, _⟩ := O.look
  obtain ⟨m, hF⟩ := I.fr
  have hr2 : Room k X.A.in1.in1 := (show Room (k + 1) X.A.in1 from Room.in1 hr).in1
  refine RBo.bool_by (PySem.W.truthy_K hF I.ok.mod.kin J hs hf ?_)
  have hl : ([Value.ref a] ++ []).length = ps.length := Fn.len _ _ _ _ q
  refine wpAny_call (codeAny_mono (Fn.run X.A.in1.in1 X.stack s H ⟨[.ref a], []⟩ [.ref a] [.ref a] _ E0 hr2 I.env0.in1.in1 (hb s [.ref a] I.kIn hl) (.cons rfl .nil) q) fun z s' hq => ?_)
  match z, hq with
  | .ok (.ret w'), hq =>
    obtain ⟨v', H', I', rv, y, e, qz⟩ := I.after hq
    subst e
    cases (show w' = Value.bool y from rv)
    exact ⟨.bl y, H', I', rfl, qz⟩
end
end RL

set_option maxHeartbeats 2000000
/-! for in the body of a generator. -/
namespace PySem
section
variable {M : Model} {A : Around} {R : GenEnd} {Y : Protocol} {n : Nat} {s₀ : Shared} {c : Code} {fs : List Frame} {s : Shared} {env : Env}
  {K : Flow → Sem Fin} {J : Value → Sem Fin} {gd : Bool → Bool} {lv : List Value → List Value}
theorem segw_bindR {α β : Type} {m : Sem α} {f : α → Sem β} {K : β → Sem Fin}
    (h : wpAny M (A.over c fs) m (fun a s' => Seg M A R Y n s₀ c ((f a).wrap K J gd lv) fs s') (fun x s' => Seg M A R Y n s₀ c (J x) fs s') s) :
    Seg M A R Y n s₀ c ((m >>= f).wrap K J gd lv) fs s := by
  rw [Sem.bind_eq_wrap', Sem.wrap_wrap]
  exact seg_wrap h
theorem segR_For {target iter : Expr} {body : List Stmt} {pos : Pos}
    (h : wpAny M (A.over c fs) (eval iter env) (fun x s₁ => wpAny M (A.over c fs) (pyIter x) (fun it s₂ =>
      ∀ p, Seg M A R Y n s₀ (.forLoop target it body [] env) (M.den (.forLoop target it body [] env))
        (.ret (fun r => ((match r with | .ok f => (.pure f : Sem Flow) | .error e => .raise e).onRaise fun (x : Value) => do
          if (← field x 1) == Value.none then unsupported "frame.own-activation:exception-without-traceback"
          setFlight x env.frame).wrap K J gd lv) none (gd false) (lv []) c p [] :: fs) s₂)
      (fun x s' => Seg M A R Y n s₀ c (J x) fs s') s₁) (fun x s' => Seg M A R Y n s₀ c (J x) fs s') s)
    (hs : ∀ x, foldedSetIterable iter env x = pure x := by intro _; rfl) :
    Seg M A R Y n s₀ c ((exec (.For target iter body [] pos) env).wrap K J gd lv) fs s := by
  rw [exec_For]
  refine segw_bindR (wpAny_standAt ?_)
  refine segw_bindR (wpAny_mono h (fun x s₁ h₁ => ?_) fun _ _ z => z)
  refine segw_bindR (wpAny_of_eq (hs x) ?_)
  refine segw_bindR (wpAny_standAt ?_)
  refine segw_bindR (wpAny_holding (wpAny_mono h₁ (fun it s₂ h₂ => ?_) fun _ _ z => z))
  exact seg_call h₂
end
section
variable {prog : Program} {w : World} {A : Around} {R : GenEnd} {Y : Protocol} {n : Nat} {s₀ : Shared} {fs : List Frame} {s : Shared} {env : Env}
def notedR (env : Env) (e : Value) : Sem Fin := (do noteFrame e env; theTreesLotGoes e : Sem Unit).wrap (fun _ => .raise e) .raise id id
theorem noted_bind (env : Env) (e : Value) : ((do noteFrame e env; theTreesLotGoes e : Sem Unit).bind fun _ => (.raise e : Sem Fin)) = notedR env e := Sem.bind_eq_wrap _ _
theorem segR_forLoop {target : Expr} {it : Value} {body : List Stmt}
    (h : wpAny (model prog w) (A.over (.forLoop target it body [] env) fs) (pyNext it) (fun r s₁ => match r with
      | none => Seg (model prog w) A R Y n s₀ (.block [] env) (leafOf (.ok .next)) fs s₁
      | some v => wpAny (model prog w) (A.over (.forLoop target it body [] env) fs) (letOwnedTupleGo target it v) (fun _ s₁' =>
          wpAny (model prog w) (A.over (.forLoop target it body [] env) fs) (assign target env v) (fun _ s₂ =>
            Seg (model prog w) A R Y n s₀ (.forLoop target it body [] env) ((execs body env).wrap (fun f => match f with
              | .next | .cont => .pure (.again (.forLoop target it body [] env))
              | .brk => .pure (.done .next)
              | .ret v => .pure (.done (.ret v))) (notedR env) id id) fs s₂)
            (fun x s' => Seg (model prog w) A R Y n s₀ (.forLoop target it body [] env) (notedR env x) fs s') s₁')
          (fun x s' => Seg (model prog w) A R Y n s₀ (.forLoop target it body [] env) (notedR env x) fs s') s₁)
      (fun x s' => Seg (model prog w) A R Y n s₀ (.forLoop target it body [] env) (notedR env x) fs s') s) :
    Seg (model prog w) A R Y n s₀ (.forLoop target it body [] env) ((model prog w).den (.forLoop target it body [] env)) fs s := by
  show Seg _ A R Y n s₀ _ ((forTurn target it body [] env).onRaise (fun x => do noteFrame x env; theTreesLotGoes x)) fs s
  rw [Sem.onRaise_eq_wrap]
  unfold forTurn
  refine segw_bindR (wpAny_standAt ?_)
  refine segw_bindR (wpAny_onRaise (wpAny_mono h (fun r s₁ h₁ => ?_) fun x s' hx => wpAny_standAt ?_))
  · cases r with
    | none => exact seg_again rfl h₁
    | some v =>
      refine segw_bindR (wpAny_mono h₁ (fun _ s₁' h₁' => ?_) fun x s' hx => ?_)
      · refine segw_bindR (wpAny_mono h₁' (fun _ s₂ h₂ => ?_) fun x s' hx => ?_)
        · rw [Sem.bind_eq_wrap', Sem.wrap_wrap]
          rw [Sem.wrap_congr (execs body env) _ _ (K' := fun f => match f with
              | .next | .cont => .pure (.again (.forLoop target it body [] env))
              | .brk => .pure (.done .next)
              | .ret v => .pure (.done (.ret v))) (H' := notedR env) (fun f => by cases f <;> rfl) (fun e => by rw [← noted_bind]; rfl)]
          exact h₂
        · rw [noted_bind]
          exact hx
      · rw [noted_bind]
        exact hx
  · rw [noted_bind]
    exact hx
end
end PySem
namespace L2
open PySem PySem.Spec PyProof.Rows GenW
section
variable {X : Cx} {tg : Expr}
def tGFor (wi : TI) (g : TG) (tb : TGn) : TGn := fun D ys σ H => wi σ H fun J H1 => ∃ W : Nat → Nat → List V → St → Hp → Prop, (∃ m, W 0 m ys σ H1) ∧ ∀ i m ys σ H, W i m ys σ H →
  (J.stop i H ∧ D.nx ys σ H) ∨ (J.go i H ∧ ∃ N : List V → St → Hp → Prop, (∀ ys' σ' H', N ys' σ' H' → ∃ m', m' < m ∧ W (i + 1) m' ys' σ' H') ∧ ∀ x H', J.yld i H x H' → g x σ H' fun σ2 H2 => tb { D with nx := N, ct := N, bk := D.nx } ys σ2 H2)
theorem gs_for {iter : Expr} {body : List Stmt} {wi : TI} {g : TG} {tb : TGn} {pos : Pos} (hp : PassesOwn (model X.prog X.w) X.A X.env X.xe) (hc : X.calm = true) (hi : PI X tg iter wi) (hg : PG X tg g) (hb : GSs X body tb)
    (hs : ∀ x, foldedSetIterable iter X.env x = pure x := by intro _; rfl) : GS X (.For tg iter body [] pos) (tGFor wi g tb) := by
  refine ⟨fun A S ip R n ys s₀ c fs K J gd lv s σ H D gc hn k hI ht => ?_⟩
  obtain ⟨acc0, cc0, r0, I0⟩ := hI
  refine segR_For ?_ hs
  rw [gc.over]
  refine wpAny_mono (hi.run _ s σ H _ I0 ht) (fun v s1 h1 => wpAny_mono h1 (fun itv s2 h2 => ?_) fun x s' hx => k.exc n s₀ x s' hx) fun x s' hx => k.exc n s₀ x s' hx
  obtain ⟨it, fp, tn, Jt, H2, rfl, I2, T, st2, f2, W, ⟨m0, w0⟩, turn⟩ := h2
  intro p
  have gl := fun (kk : Result → Sem PySem.Fin) => gc_loop (k := kk) (c' := .forLoop tg (.ref it) body [] X.env) (l := lv []) (kp := []) (p := p) gc rfl rfl
  -- what stays true of the iterator's objects, whatever is out
  have fS : ∀ b ∈ fp, S ≠ b := fun b hb => (f2 b hb).2.2.2.2.2 (S, lstObj acc0 cc0) (List.mem_append_right _ List.mem_cons_self)
  have stat : ∀ {acc : Array Value} {cc : Nat} {H' : Hp}, (∀ b ∈ fp, H' b = none) → ∀ b ∈ fp, FpOk X ((S, lstObj acc cc) :: ip) H' b := fun {acc cc H'} hn b hb => by
    obtain ⟨_, q1, q2, q3, q4, q5⟩ := f2 b hb
    refine ⟨hn b hb, q1, q2, q3, q4, fun z hz => ?_⟩
    rcases List.mem_append.mp hz with hz | hz
    · exact q5 z (List.mem_append_left _ hz)
    · rcases List.mem_cons.mp hz with rfl | hz
      · exact fS b hb
      · exact q5 z (List.mem_append_right _ (List.mem_cons_of_mem _ hz))
  have loop : ∀ (m i n : Nat) (ys : List V) (s₀ s : Shared) (σ : St) (H : Hp), n + ys.length = sizeLine → W i m ys σ H → GI X S ip ys σ H s → tn i s.heap → (∀ b ∈ fp, H b = none) →
      Seg (model X.prog X.w) A R (GY X S) n s₀ (.forLoop tg (.ref it) body [] X.env) ((model X.prog X.w).den (.forLoop tg (.ref it) body [] X.env))
        (.ret (fun r => ((match r with | .ok f => (.pure f : Sem Flow) | .error e => .raise e).onRaise (cameBack X.env)).wrap K J gd lv) none (gd false) (lv []) c p [] :: fs) s := by
    intro m
    induction m using Nat.strongRecOn with
    | ind m ih =>
      intro i n ys s₀ s σ H hn w hI st fr
      have ee : ∀ (n : Nat) (s₀ : Shared) (x : Value) (s' : Shared), X.xe x s' → Seg (model X.prog X.w) A R (GY X S) n s₀ (.forLoop tg (.ref it) body [] X.env) (notedR X.env x)
          (.ret (fun r => ((match r with | .ok f => (.pure f : Sem Flow) | .error e => .raise e).onRaise (cameBack X.env)).wrap K J gd lv) none (gd false) (lv []) c p [] :: fs) s' := fun n s₀ x s' hx => by
        refine seg_wrap ?_
        rw [(gl _).over]
        refine wpAny_bind (wpAny_mono (hp x s' hx) (fun _ s'' hcb => wpAny_theTreesLotGoes ?_) fun y s'' hcb => ?_)
        · exact seg_leaf (.error x) (seg_cameBack gc k hcb)
        · exact seg_leaf (.error y) (seg_cameBack gc k hcb)
      refine segR_forLoop ?_
      rw [(gl _).over]
      obtain ⟨acc, cc, r, I⟩ := hI
      rcases turn i m ys σ H w with ⟨stop, qn⟩ | ⟨go, N, hN, step⟩
      · refine wpAny_mono (T.done X rfl rfl rfl hc i _ s σ H X.xe I (stat fr) st stop) (fun z s4 hz => ?_) fun x s' hx => ee n s₀ x s' hx
        obtain ⟨rfl, I4⟩ := hz
        exact seg_leaf (.ok .next) (k.ok n ys s₀ s4 .next hn ⟨σ, H, ⟨acc, cc, r, I4⟩, qn⟩)
      · refine wpAny_mono (T.item X rfl rfl rfl hc i _ s σ H X.xe I (stat fr) st go) (fun z s4 hz => ?_) fun x s' hx => ee n s₀ x s' hx
        obtain ⟨u, rfl, h4⟩ := hz
        refine wpAny_mono h4 (fun _ s5 h5 => ?_) fun x s' hx => ee n s₀ x s' hx
        obtain ⟨x, H5, I5, r5, y5, st5, fr5⟩ := h5
        have I5' := I5.pinned (stat fr5) (T.obj _ _ st5)
        refine wpAny_mono (hg.run _ s5 σ H5 x u _ I5' r5 (step x H5 y5)) (fun _ s6 h6 => ?_) fun x s' hx => ee n s₀ x s' hx
        obtain ⟨σ6, H6, I6, q6⟩ := h6
        have ipS : ∀ q ∈ ip ++ pinsAt fp s5.heap, q.1 ≠ S := fun q hq => (List.mem_append.mp hq).elim (fun z => gc.ip q z) fun z => (fS q.1 (of_pinsAt z).1).symm
        have gb := gl (fun r => ((match r with | .ok f => (.pure f : Sem Flow) | .error e => .raise e).onRaise (cameBack X.env)).wrap K J gd lv)
        have out : ∀ {ys' : List V} {σ7 : St} {H7 : Hp} {s7 : Shared}, GI X S (ip ++ pinsAt fp s5.heap) ys' σ7 H7 s7 → GI X S ip ys' σ7 H7 s7 ∧ tn (i + 1) s7.heap ∧ ∀ b ∈ fp, H7 b = none := fun {ys' σ7 H7 s7} hG => by
          obtain ⟨acc7, cc7, r7, I7⟩ := hG
          have I7' : Inv X (((S, lstObj acc7 cc7) :: ip) ++ pinsAt fp s5.heap) σ7 H7 s7 := I7
          refine ⟨⟨acc7, cc7, r7, I7'.unpinned⟩, T.keep _ _ _ st5 fun b hb o e => (I7'.pin (b, o) (List.mem_append_right _ (List.mem_append_right _ (mem_pinsAt hb e)))).1, fun b hb => ?_⟩
          obtain ⟨o, e, d⟩ := T.obj _ _ st5 b hb
          exact (I7'.pin (b, o) (List.mem_append_right _ (List.mem_append_right _ (mem_pinsAt hb e)))).2.1
        refine hb.run A S (ip ++ pinsAt fp s5.heap) R n ys s₀ _ _ _ _ id id s6 σ6 H6 { D with nx := N, ct := N, bk := D.nx } ⟨gb.pn, ipS, gb.apart, gb.over, gb.split, gb.guard, gb.gd⟩ hn ⟨fun n' ys' s₀' s7 f hn' hs7 => ?_, fun n' s₀' x s7 hx => ee n' s₀' x s7 hx⟩ ⟨acc, cc, r, I6⟩ q6
        cases f with
        | next =>
          obtain ⟨σ7, H7, I7, n7⟩ := hs7
          obtain ⟨g7, t7, f7⟩ := out I7
          obtain ⟨m', hm, w7⟩ := hN ys' σ7 H7 n7
          exact seg_again rfl (ih m' hm (i + 1) n' ys' s₀' s7 σ7 H7 hn' w7 g7 t7 f7)
        | cont =>
          obtain ⟨σ7, H7, I7, n7⟩ := hs7
          obtain ⟨g7, t7, f7⟩ := out I7
          obtain ⟨m', hm, w7⟩ := hN ys' σ7 H7 n7
          exact seg_again rfl (ih m' hm (i + 1) n' ys' s₀' s7 σ7 H7 hn' w7 g7 t7 f7)
        | brk =>
          obtain ⟨σ7, H7, I7, n7⟩ := hs7
          exact seg_leaf (.ok .next) (k.ok n' ys' s₀' s7 .next hn' ⟨σ7, H7, (out I7).1, n7⟩)
        | ret v =>
          obtain ⟨x7, σ7, H7, I7, r7, q7⟩ := hs7
          exact seg_leaf (.ok (.ret v)) (k.ok n' ys' s₀' s7 (.ret v) hn' ⟨x7, σ7, H7, (out I7).1, r7, q7⟩)
  exact loop m0 0 n ys s₀ s2 σ H2 hn w0 ⟨acc0, cc0, r0, I2⟩ st2 fun b hb => (f2 b hb).1
end
/-- over a range, in a generator -/
theorem gfor_range {lo : Int} {n : Nat} {g : TG} {tb : TGn} {D : GEnds} {ys : List V} {σ : St} {H : Hp} (Pv : Nat → List V → St → Hp → Prop) (h0 : Pv 0 ys σ H)
    (hs : ∀ i ys σ H, i < n → Pv i ys σ H → g (.int (lo + i)) σ H fun σ2 H2 => tb { D with nx := Pv (i + 1), ct := Pv (i + 1), bk := D.nx } ys σ2 H2) (hd : ∀ ys σ H, Pv n ys σ H → D.nx ys σ H) :
    ∃ W : Nat → Nat → List V → St → Hp → Prop, (∃ m, W 0 m ys σ H) ∧ ∀ i m ys σ H, W i m ys σ H →
      ((Itr lo n).stop i H ∧ D.nx ys σ H) ∨ ((Itr lo n).go i H ∧ ∃ N : List V → St → Hp → Prop, (∀ ys' σ' H', N ys' σ' H' → ∃ m', m' < m ∧ W (i + 1) m' ys' σ' H') ∧ ∀ x H', (Itr lo n).yld i H x H' → g x σ H' fun σ2 H2 => tb { D with nx := N, ct := N, bk := D.nx } ys σ2 H2) := by
  refine ⟨fun i m ys σ H => m = n - i ∧ i ≤ n ∧ Pv i ys σ H, ⟨n, by simp, Nat.zero_le _, h0⟩, ?_⟩
  rintro i m ys σ H ⟨rfl, hi, p⟩
  by_cases hlt : i < n
  · refine .inr ⟨hlt, Pv (i + 1), fun ys' σ' H' p' => ⟨n - (i + 1), by omega, rfl, hlt, p'⟩, fun x H' y => ?_⟩
    obtain ⟨e, y⟩ := y
    subst e y
    exact hs i ys σ _ hlt p
  · have e : i = n := by omega
    subst e
    exact .inl ⟨Nat.le_refl _, hd ys σ H p⟩
end L2

set_option maxHeartbeats 1000000
/-! for over range(a, b) of integers of any size; for over a tuple in a generator -/
namespace RL
open PySem L2 PySem.Spec PyProof.Rows
theorem turn_long {P : Program} {w : World} {K : PySem.W.Frag} {tg : Expr} (it : Addr) (lo : Int) (n : Nat) : Turn P w K tg (Itr lo n) [it] it (fun i h => IsLongIter h it (lo + (i : Nat) * 1) ((n : Int) - (i : Nat)) 1) where
  mem := by simp
  obj := fun i h st b hb => by
    have e : b = it := by simpa using hb
    subst e
    exact ⟨_, st, fun v z => by
      have z' : Data.fields _ = Data.cell v := z
      cases z'⟩
  keep := fun i h h' st k => k it (by simp) _ st
  item := by
    intro X hP hw hK hc i pins s σ H E I hf st hg
    subst hP hw hK
    obtain ⟨f0, f1, f2, f3, f4, f5⟩ := hf it (by simp)
    have W := Walks.longrange (prog := X.prog) (w := X.w) (I.ok.hd hc) it lo 1 n
    refine W.item i s _ _ hg st fun v h' tk hv st' kk => ?_
    obtain ⟨t, rfl⟩ := hv
    have I1 : Inv X pins σ H { s with heap := h', toks := tk } := I.turned (fun b o hb e => kk b o (by simpa using hb) e) f0 f1 f3 f4 f5
    refine ⟨_, rfl, go_of (s := { s with heap := h', toks := tk }) (n := "longrange_iterator") st' rfl rfl (by decide) ⟨.int (lo + i), H, I1, ⟨t, ?_⟩, ⟨rfl, rfl⟩, st', fun b hb => (hf b hb).1⟩⟩
    rw [Int.mul_one]
  done := by
    intro X hP hw hK hc i pins s σ H E I hf st hg
    subst hP hw hK
    obtain ⟨f0, f1, f2, f3, f4, f5⟩ := hf it (by simp)
    exact wpAny_pyNext_long_end (I.ok.hd hc) st (by have : n ≤ i := hg; omega) fun h' eb => ⟨rfl, I.turned (t' := s.toks) (fun b o hb e => eb b o hb e) f0 f1 f3 f4 f5⟩
  self := fun _ _ _ _ _ st h => wpAny_pyIter_longiter st h
section
variable {X : Cx} {tg : Expr}
theorem range_itW {pins : List (Addr × Obj)} {σ : L2.St} {H : Hp} {s : Shared} {R : It → Hp → Prop} {E : Value → Shared → Prop} {lo hi : Int} {t u v : Tok} {tk : Nat} (I : Inv X pins σ H s)
    (q : R (Itr lo (hi - lo).toNat) H) : wpAny (model X.prog X.w) X.A (pyIter (.ref s.heap.objs.size)) (PIE X pins σ tg R) E { s with heap := s.heap.push { cls := .type "range", data := .fields #[.int lo t, .int hi u, .int 1 v] }, toks := tk } := by
  have I1 : Inv X pins σ H { s with heap := s.heap.push { cls := .type "range", data := .fields #[.int lo t, .int hi u, .int 1 v] }, toks := tk } := I.kept fun b o e => Heap.get?_push_of_some _ e
  have e1 : lo + ((0 : Nat) : Int) * 1 = lo := by simp
  have e2 : (((hi - lo).toNat : Nat) : Int) - ((0 : Nat) : Int) = Builtin.Range.rangeSize lo hi 1 := by rw [rangeSize_one]; split <;> omega
  have fp : ∀ b ∈ [(s.heap.push { cls := .type "range", data := .fields #[.int lo t, .int hi u, .int 1 v] }).objs.size], FpOk X pins H b := fun b hb => by
    have e : b = (s.heap.push { cls := .type "range", data := .fields #[.int lo t, .int hi u, .int 1 v] }).objs.size := by simpa using hb
    subst e
    exact I1.fpOk (Nat.le_refl _) (I1.hok.fresh (Nat.le_refl _))
  cases hs : Builtin.Range.small lo hi 1 with
  | true =>
    refine wpAny_pyIter_range (IsRange.new ..) hs ?_
    refine ⟨(s.heap.push { cls := .type "range", data := .fields #[.int lo t, .int hi u, .int 1 v] }).objs.size, [(s.heap.push { cls := .type "range", data := .fields #[.int lo t, .int hi u, .int 1 v] }).objs.size], _, _, H, rfl,
      I1.kept (t' := tk) fun b o e => Heap.get?_push_of_some _ e, turn_range _ lo (hi - lo).toNat, ?_, fp, q⟩
    show IsRangeIter _ _ (lo + ((0 : Nat) : Int) * 1) ((((hi - lo).toNat : Nat) : Int) - ((0 : Nat) : Int)) 1
    rw [e1, e2]
    exact Heap.get?_push_size _ rfl
  | false =>
    refine wpAny_pyIter_longrange (IsRange.new ..) hs ?_
    refine ⟨(s.heap.push { cls := .type "range", data := .fields #[.int lo t, .int hi u, .int 1 v] }).objs.size, [(s.heap.push { cls := .type "range", data := .fields #[.int lo t, .int hi u, .int 1 v] }).objs.size], _, _, H, rfl,
      I1.kept (t' := tk) fun b o e => Heap.get?_push_of_some _ e, turn_long _ lo (hi - lo).toNat, ?_, fp, q⟩
    show IsLongIter _ _ (lo + ((0 : Nat) : Int) * 1) ((((hi - lo).toNat : Nat) : Int) - ((0 : Nat) : Int)) 1
    rw [e1, e2]
    exact Heap.get?_push_size _ rfl
def iRng2W (ta : TA) : TI := fun σ H R => ta σ H fun vs H1 => ∃ i j : Int, vs = [.int i, .int j] ∧ R (Itr i (j - i).toNat) H1
theorem pi_range2W {a b : Expr} {ta : TA} {p pos : Pos} (hg : Gl X "range") (hm : X.mg "range" = none) (ha : PA X [a, b] ta) (hs : starEach [a, b] X.env = [(false, eval a X.env), (false, eval b X.env)] := by rfl) (hs2 : starEach [b] X.env = [(false, eval b X.env)] := by rfl) :
    PI X tg (.Call (.Name "range" p) [a, b] [] pos) (iRng2W ta) := by
  refine ⟨fun pins s σ H R I h => ?_⟩
  refine Call_ (ld_blt I hg hm boot_range (PyProof.Rows.callWith_type1 (thn (ha.run pos pins s σ H _ I h) fun us s1 ⟨vs, H1, I1, r1, q1⟩ => ?_) (by rw [hs, hs2]) (by rw [hs2]; rfl)))
  obtain ⟨i, j, e, q⟩ := q1
  subst e
  cases r1 with
  | cons r rr =>
    cases rr with
    | cons r' rr =>
      cases rr
      obtain ⟨t, rfl⟩ := r
      obtain ⟨t', rfl⟩ := r'
      exact call_range_2 (range_itW I1 q)
end
open GenW
/-- over a tuple, in a generator -/
theorem gfor_tup {K : PySem.W.Frag} {a : Addr} {xs : List V} {g : TG} {tb : TGn} {D : GEnds} {ys : List V} {σ : L2.St} {H : Hp} (Pv : Nat → List V → L2.St → Hp → Prop) (h0 : Pv 0 ys σ H) (hl : ∀ i ys σ H, i ≤ xs.length → Pv i ys σ H → SqT K H a xs)
    (hs : ∀ i x ys σ H, xs[i]? = some x → Pv i ys σ H → g x σ H fun σ2 H2 => tb { D with nx := Pv (i + 1), ct := Pv (i + 1), bk := D.nx } ys σ2 H2) (hd : ∀ ys σ H, Pv xs.length ys σ H → D.nx ys σ H) :
    ∃ W : Nat → Nat → List V → L2.St → Hp → Prop, (∃ m, W 0 m ys σ H) ∧ ∀ i m ys σ H, W i m ys σ H →
      ((Itt K a).stop i H ∧ D.nx ys σ H) ∨ ((Itt K a).go i H ∧ ∃ N : List V → L2.St → Hp → Prop, (∀ ys' σ' H', N ys' σ' H' → ∃ m', m' < m ∧ W (i + 1) m' ys' σ' H') ∧ ∀ x H', (Itt K a).yld i H x H' → g x σ H' fun σ2 H2 => tb { D with nx := N, ct := N, bk := D.nx } ys σ2 H2) := by
  refine ⟨fun i m ys σ H => m = xs.length - i ∧ i ≤ xs.length ∧ Pv i ys σ H, ⟨xs.length, by simp, Nat.zero_le _, h0⟩, ?_⟩
  rintro i m ys σ H ⟨rfl, hi, p⟩
  have q := hl i ys σ H hi p
  by_cases hlt : i < xs.length
  · refine .inr ⟨⟨xs, xs[i], q, by simp [hlt]⟩, Pv (i + 1), fun ys' σ' H' p' => ⟨xs.length - (i + 1), by omega, rfl, hlt, p'⟩, fun x H' y => ?_⟩
    obtain ⟨e, y⟩ := y
    subst e
    exact hs i x ys σ _ (y xs q) p
  · have e : i = xs.length := by omega
    subst e
    exact .inl ⟨⟨xs, q, Nat.le_refl _⟩, hd ys σ H p⟩
end RL

set_option maxHeartbeats 2000000
/-! Generator methods: by keyword; no exception leaves them. -/
namespace RL
open PySem L2 PySem.Spec PyProof.Rows GenW
theorem noStop0 {K : PySem.W.Frag} : NoStop K E0 := fun _ _ _ h => False.elim h
theorem passC {X : Cx} : Passes (L2.CX X.prog X.w) X E0 := fun _ _ _ _ _ _ _ h => by
  obtain ⟨a, B, H', cls, d, h1, h2, h3, h4, h5, h6, h7, h8⟩ := h
  exact False.elim h8
section
variable {X : Cx} {k : Nat} {f C : Addr} {fd : FuncData} {sp : SpG} {m p1 kw : Str} {pos' apos kpos : Pos} {o e : Expr} {ta : TE} {tk : TA}
/-- a generator method of two parameters -/
structure MtG (P : Program) (w : World) (K : PySem.W.Frag) (mg : Str → Option Value) (base : Heap) (C : Addr) (k : Nat) (m p1 kw : Str) (sp : SpG) : Prop where
  ex : ∃ (f : Addr) (fd : FuncData), GFn P w K mg base k f fd [p1, kw] sp ∧ Meth K C m f ∧ Binds K fd [p1, kw] [] ∧ (∀ (s : Shared) (u v : Value), K.In s.heap → BindsTo s fd ⟨[u], [(kw, v)]⟩ [(p1, u), (kw, v)])
theorem run_gfnK {pins : List (Addr × Obj)} {σ : L2.St} {H : Hp} {s : Shared} {u v : Value} {x y : V} {cont : List V → Hp → Prop} {E : XK} {E1 : Value → Shared → Prop} (F : GFn X.prog X.w X.K X.mg X.base k f fd [p1, kw] sp) (hr : Room k X.A)
    (hb : ∀ (s : Shared) (u v : Value), X.K.In s.heap → BindsTo s fd ⟨[u], [(kw, v)]⟩ [(p1, u), (kw, v)]) (I : Inv X pins σ H s) (rx : RelV x u) (ry : RelV y v) (h : sp [x, y] H cont E) :
    wpAny (model X.prog X.w) X.A (call (.ref f) [u] [(kw, v)]) (fun z s' => ∃ H1 sc ex, Inv X pins σ H1 sc ∧ ExOk X pins ex ∧ GMade X.prog X.w k X.stack H1 sc ex cont E z s') E1 s := by
  refine wpAny_call (codeAny_mono (F.run X.A X.stack s H ⟨[u], [(kw, v)]⟩ [u, v] [x, y] cont E hr I.env0 (hb s u v I.kIn) (.cons rx (.cons ry .nil)) h) fun r s' hq => ?_)
  cases r with
  | error e => exact False.elim hq
  | ok fl =>
    cases fl with
    | ret z => exact ⟨H, s, [], I, .nil, hq⟩
    | next => exact False.elim hq
    | brk => exact False.elim hq
    | cont => exact False.elim hq
def tMethGK (C : Addr) (m : Str) (sp : SpG) (E : XK) (ta : TE) (t : TA) : TGen := fun σ H cont => ta σ H fun x H1 => ∃ a dx fs, x = .ref a ∧ H1 a = some (.ins C dx fs) ∧ fs.lookup m = none ∧ t σ H1 fun zs H2 => ∃ y, zs = [y] ∧ sp [x, y] H2 cont E
theorem pgen_dm {E : XK} {pl : Sem Bool} {e : Expr} {es : List Expr} {t : TA} (he : PE X o ta) (c : Cls X.K C) (D : MtG X.prog X.w X.K X.mg X.base C k m p1 kw sp) (hr : Room k X.A) (ha : PA X (e :: es) t)
    (hst : starEach (e :: es) X.env = (false, eval e X.env) :: starEach es X.env := by rfl) (hpl : (backTo pos' (starEach es X.env)).any (·.1) = false := by rfl)
    (ht : eval (.Call (.Attribute o m apos) (e :: es) [] pos') X.env = (do
      let ov ← eval o X.env
      standAt apos.atName
      let (f, first) ← holding [ov] (getMethod ov m pl)
      callWith pos' f first (backTo pos' (starEach (e :: es) X.env)) (backToKw pos' (keywordEach [] X.env))) := by rfl) :
    PGen X k (.Call (.Attribute o m apos) (e :: es) [] pos') (tMethG C m sp [] E ta t) E := by
  obtain ⟨f, fd, F, hm, hb, _⟩ := D.ex
  exact pgen_meth (pl := pl) he c hm F hr hb .nil ha hst hpl ht
theorem pgen_dmK {E : XK} {pl : Sem Bool} (he : PE X o ta) (c : Cls X.K C) (D : MtG X.prog X.w X.K X.mg X.base C k m p1 kw sp) (hr : Room k X.A) (hkw : PK X [⟨some kw, e, kpos⟩] tk)
    (hall : (backToKw pos' (keywordEach [⟨some kw, e, kpos⟩] X.env)).all (·.1.isSome) = true := by rfl) (hks : (backToKw pos' (keywordEach [⟨some kw, e, kpos⟩] X.env)).filterMap (·.1) = [kw] := by rfl)
    (hpl : ((backTo pos' (starEach [] X.env)).any (·.1) || (backToKw pos' (keywordEach [⟨some kw, e, kpos⟩] X.env)).any (·.1.isNone)) = false := by rfl)
    (ht : eval (.Call (.Attribute o m apos) [] [⟨some kw, e, kpos⟩] pos') X.env = (do
      let ov ← eval o X.env
      standAt apos.atName
      let (f, first) ← holding [ov] (getMethod ov m pl)
      callWith pos' f first (backTo pos' (starEach [] X.env)) (backToKw pos' (keywordEach [⟨some kw, e, kpos⟩] X.env))) := by rfl) :
    PGen X k (.Call (.Attribute o m apos) [] [⟨some kw, e, kpos⟩] pos') (tMethGK C m sp E ta tk) E := by
  obtain ⟨f, fd, F, hm, _, hb⟩ := D.ex
  refine ⟨fun pins s σ H cont I h => ?_⟩
  refine PySem.W.methodCall_KW (pl := pl) (thn (he.run pins s σ H _ I h) fun u s1 ⟨x, H1, I1, rx, a, dx, fs, ex, ea, l, q⟩ => ?_) ht
  subst ex
  obtain rfl : u = Value.ref a := rx
  refine getmeth_ok I1 ea c hm l ?_
  refine PySem.W.callWith_KW0 (first := [.ref a]) (h₀ := X.base) I.ok.mod.kin hm.kp hall ?_ hpl
  refine thn (hkw.run pos' pins s1 σ H1 _ I1 q) fun ws s2 ⟨zs, H2, I2, rz, y, ey, q2⟩ => ⟨I2.kIn, ?_⟩
  subst ey
  rw [hks]
  cases rz with
  | cons ry rr =>
    cases rr
    exact run_gfnK (x := .ref a) F hr hb I2 rfl ry q2
end
end RL

set_option maxHeartbeats 2000000
namespace RL
open PySem L2 PySem.Spec PyProof.Rows
/-! ### data in heaps -/
inductive Dr (H : Hp) : V → PyData → Prop
  | non : Dr H .non .none
  | bl (b : Bool) : Dr H (.bl b) (.bool b)
  | int (i : Int) : Dr H (.int i) (.int i)
  | str (x : Str) : Dr H (.str x) (.str x)
  | lst {a : Addr} {vs : List V} {ds : List PyData} : H a = some (.lst vs) → vs.length = ds.length → (∀ (i : Nat) v d, vs[i]? = some v → ds[i]? = some d → Dr H v d) → Dr H (.ref a) (.list ds)
  | tup {a : Addr} {vs : List V} {ds : List PyData} : H a = some (.tup vs) → vs.length = ds.length → (∀ (i : Nat) v d, vs[i]? = some v → ds[i]? = some d → Dr H v d) → Dr H (.ref a) (.tuple ds)
  | dk {a : Addr} : H a = some (.dK []) → Dr H (.ref a) (.dict [])
def Drs (H : Hp) (vs : List V) (ds : List PyData) : Prop := vs.length = ds.length ∧ ∀ (i : Nat) v d, vs[i]? = some v → ds[i]? = some d → Dr H v d
theorem Drs.nil {H : Hp} : Drs H [] [] := ⟨rfl, fun (i : Nat) v d h => by simp at h⟩
theorem Drs.cons {H : Hp} {v : V} {d : PyData} {vs : List V} {ds : List PyData} (h : Dr H v d) (t : Drs H vs ds) : Drs H (v :: vs) (d :: ds) := by
  refine ⟨by simp [t.1], fun (i : Nat) w e h1 h2 => ?_⟩
  cases i with
  | zero =>
    cases h1
    cases h2
    exact h
  | succ i => exact t.2 i w e h1 h2
theorem Dr.ts {H : Hp} {a : Addr} {vs : List V} {ds : List PyData} (h : H a = some (.tup vs)) (t : Drs H vs ds) : Dr H (.ref a) (.tuple ds) := .tup h t.1 t.2
theorem Dr.ls {H : Hp} {a : Addr} {vs : List V} {ds : List PyData} (h : H a = some (.lst vs)) (t : Drs H vs ds) : Dr H (.ref a) (.list ds) := .lst h t.1 t.2
theorem Dr.mono {H H' : Hp} {v : V} {d : PyData} (h : Dr H v d) (s : Same H H') : Dr H' v d := by
  induction h with
  | non => exact .non
  | bl b => exact .bl b
  | int i => exact .int i
  | str x => exact .str x
  | lst h l _ ih => exact .lst (s _ _ h) l ih
  | tup h l _ ih => exact .tup (s _ _ h) l ih
  | dk h => exact .dk (s _ _ h)
theorem Drs.mono {H H' : Hp} {vs : List V} {ds : List PyData} (h : Drs H vs ds) (s : Same H H') : Drs H' vs ds := ⟨h.1, fun (i : Nat) v d h1 h2 => (h.2 i v d h1 h2).mono s⟩
theorem Drs.inv {H : Hp} {v : V} {d : PyData} {vs : List V} {ds : List PyData} (h : Drs H (v :: vs) (d :: ds)) : Dr H v d ∧ Drs H vs ds :=
  ⟨h.2 0 v d rfl rfl, ⟨by have := h.1; simpa using this, fun (i : Nat) w e h1 h2 => h.2 (i + 1) w e h1 h2⟩⟩
theorem Drs.at_ {H : Hp} {vs : List V} {ds : List PyData} (h : Drs H vs ds) {i : Nat} {d : PyData} (hd : ds[i]? = some d) : ∃ v, vs[i]? = some v ∧ Dr H v d := by
  have hi : i < vs.length := by rw [h.1]; exact (List.getElem?_eq_some_iff.mp hd).1
  exact ⟨_, List.getElem?_eq_getElem hi, h.2 i _ d (List.getElem?_eq_getElem hi) hd⟩
theorem Drs.atv {H : Hp} {vs : List V} {ds : List PyData} (h : Drs H vs ds) {i : Nat} {v : V} (hv : vs[i]? = some v) : ∃ d, ds[i]? = some d ∧ Dr H v d := by
  have hi : i < ds.length := by rw [← h.1]; exact (List.getElem?_eq_some_iff.mp hv).1
  exact ⟨_, List.getElem?_eq_getElem hi, h.2 i v _ hv (List.getElem?_eq_getElem hi)⟩
theorem Drs.app {H : Hp} {vs ws : List V} {ds es : List PyData} (h : Drs H vs ds) (h' : Drs H ws es) : Drs H (vs ++ ws) (ds ++ es) := by
  induction vs generalizing ds with
  | nil =>
    cases ds with
    | nil => exact h'
    | cons d ds => exact absurd h.1 (by simp)
  | cons v vs ih =>
    cases ds with
    | nil => exact absurd h.1 (by simp)
    | cons d ds => exact .cons h.inv.1 (ih h.inv.2)
theorem Drs.take {H : Hp} {vs : List V} {ds : List PyData} (h : Drs H vs ds) (n : Nat) : Drs H (vs.take n) (ds.take n) := by
  refine ⟨by rw [List.length_take, List.length_take, h.1], fun (i : Nat) v d h1 h2 => ?_⟩
  rw [List.getElem?_take] at h1 h2
  split at h1
  · rename_i hi
    rw [if_pos hi] at h2
    exact h.2 i v d h1 h2
  · cases h1
theorem Drs.drop {H : Hp} {vs : List V} {ds : List PyData} (h : Drs H vs ds) (n : Nat) : Drs H (vs.drop n) (ds.drop n) := by
  refine ⟨by rw [List.length_drop, List.length_drop, h.1], fun (i : Nat) v d h1 h2 => ?_⟩
  rw [List.getElem?_drop] at h1 h2
  exact h.2 _ v d h1 h2
/-- no dict within -/
theorem hda_at : ∀ {ds : List PyData} {i : Nat} {d : PyData}, PyData.hasDictAll ds = false → ds[i]? = some d → d.hasDict = false
  | d :: ds, 0, _, h, e => by
    cases e
    simp only [PyData.hasDictAll, Bool.or_eq_false_iff] at h
    exact h.1
  | d :: ds, i + 1, _, h, e => by
    simp only [PyData.hasDictAll, Bool.or_eq_false_iff] at h
    exact hda_at h.2 e
theorem dpAll_of {K : PySem.W.Frag} {H : Hp} : ∀ {vs : List V} {ds : List PyData}, vs.length = ds.length → (∀ (i : Nat) v d, vs[i]? = some v → ds[i]? = some d → Dp K H v d) → DpAll K H vs ds
  | [], [], _, _ => .nil
  | [], _ :: _, h, _ => absurd h (by simp)
  | _ :: _, [], h, _ => absurd h (by simp)
  | v :: vs, d :: ds, h, k => .cons (k 0 v d rfl rfl) (dpAll_of (by simpa using h) fun (i : Nat) w e h1 h2 => k (i + 1) w e h1 h2)
theorem Dr.dp {K : PySem.W.Frag} {H : Hp} {v : V} {d : PyData} (h : Dr H v d) (n : d.hasDict = false) : Dp K H v d := by
  induction h with
  | non => exact .non
  | bl b => exact .bl b
  | int i => exact .int i
  | str x => exact .str x
  | lst h l _ ih => exact .lst (SqL.of h) (dpAll_of l fun (i : Nat) v d h1 h2 => ih i v d h1 h2 (hda_at n h2))
  | tup h l _ ih => exact .tup (SqT.of h) (dpAll_of l fun (i : Nat) v d h1 h2 => ih i v d h1 h2 (hda_at n h2))
  | dk h => exact absurd n (by simp [PyData.hasDict])
/-- a thing without dicts, or the empty dict -/
def Nd (d : PyData) : Prop := d.hasDict = false ∨ d = .dict []
theorem Dr.dq {K : PySem.W.Frag} {H : Hp} {v : V} {d : PyData} (h : Dr H v d) (n : Nd d) : Dq K H v d := by
  rcases n with n | rfl
  · exact .dp (h.dp n) n
  · cases h with
    | dk h => exact .dk (kvs := []) h
theorem Nd.at_ {ds : List PyData} {i : Nat} {d : PyData} (n : Nd (.tuple ds)) (h : ds[i]? = some d) : d.hasDict = false := by
  rcases n with n | n
  · exact hda_at n h
  · cases n
theorem ty_dr {K : PySem.W.Frag} {H : Hp} {v : V} {d : PyData} (h : Dr H v d) : TyX K H v (.type (tyN d)) := by
  cases h with
  | non => exact .base .non
  | bl b => exact .base (.bl b)
  | int i => exact .base (.int i)
  | str x => exact .base (.str x)
  | lst a _ _ => exact .base (.lst a)
  | tup a _ _ => exact .base (.tup a)
  | dk a => exact .base (.dK a)
theorem Dr.tuple {H : Hp} {v : V} {ds : List PyData} (h : Dr H v (.tuple ds)) : ∃ a vs, v = .ref a ∧ H a = some (.tup vs) ∧ Drs H vs ds := by
  cases h with
  | tup a l k => exact ⟨_, _, rfl, a, l, k⟩
theorem Dr.list {H : Hp} {v : V} {ds : List PyData} (h : Dr H v (.list ds)) : ∃ a vs, v = .ref a ∧ H a = some (.lst vs) ∧ Drs H vs ds := by
  cases h with
  | lst a l k => exact ⟨_, _, rfl, a, l, k⟩
theorem Dr.toInt {H : Hp} {v : V} {i : Int} (h : Dr H v (.int i)) : v = .int i := by
  cases h with
  | int i => rfl
theorem Dr.toStr {H : Hp} {v : V} {x : Str} (h : Dr H v (.str x)) : v = .str x := by
  cases h with
  | str i => rfl
/-! ### written data -/
def fresh (H H' : Hp) : Hp := fun b => match H b with
  | none => H' b
  | some _ => none
theorem fresh_get {H H' : Hp} {b : Addr} {o : HO} (h : fresh H H' b = some o) : H b = none ∧ H' b = some o := by
  unfold fresh at h
  cases e : H b with
  | none =>
    rw [e] at h
    exact ⟨rfl, h⟩
  | some u =>
    rw [e] at h
    cases h
theorem fresh_of {H H' : Hp} {b : Addr} {o : HO} (n : H b = none) (h : H' b = some o) : fresh H H' b = some o := by
  unfold fresh
  rw [n]
  exact h
def Dn (H H' : Hp) (v : V) (d : PyData) : Prop := Dr (fresh H H') v d
def Dns (H H' : Hp) (v : List V) (d : List PyData) : Prop := Drs (fresh H H') v d
theorem fresh_up {H H1 H2 : Hp} (s : Same H1 H2) : Same (fresh H H1) (fresh H H2) := fun b o e => by
  obtain ⟨n, h⟩ := fresh_get e
  exact fresh_of n (s _ _ h)
theorem fresh_dn {H H1 H2 : Hp} (s : Same H H1) : Same (fresh H1 H2) (fresh H H2) := fun b o e => by
  obtain ⟨n, h⟩ := fresh_get e
  refine fresh_of ?_ h
  cases q : H b with
  | none => rfl
  | some u =>
    rw [s _ _ q] at n
    cases n
theorem Dn.dr {H H' : Hp} {v : V} {d : PyData} (h : Dn H H' v d) : Dr H' v d := Dr.mono h fun b o e => (fresh_get e).2
def tData (d : PyData) : TE := fun _ H Q => ∀ H' v, Same H H' → Dn H H' v d → Q v H'
def tDatas (ds : List PyData) : TA := fun _ H Q => ∀ H' vs, Same H H' → Dns H H' vs ds → Q vs H'
section
variable {X : Cx} {e : Expr} {es : List Expr} {t t' : TE} {ta ta' : TA} {d : PyData} {ds : List PyData} {pos : Pos}
theorem pe_weak (h : PE X e t') (w : ∀ σ H Q, t σ H Q → t' σ H Q) : PE X e t := ⟨fun pins s σ H Q I q => h.run pins s σ H Q I (w _ _ _ q)⟩
theorem pa_weak (h : PA X es ta') (w : ∀ σ H Q, ta σ H Q → ta' σ H Q) : PA X es ta := ⟨fun p pins s σ H Q I q => h.run p pins s σ H Q I (w _ _ _ q)⟩
theorem pd_int {i : Int} {j p} : PE X (.Constant (.int i) j p) (tData (.int i)) := pe_weak pe_int fun _ H Q q => q H _ (Same.refl _) (.int _)
theorem pd_bl {b : Bool} {j p} : PE X (.Constant (.bool b) j p) (tData (.bool b)) := pe_weak pe_bl fun _ H Q q => q H _ (Same.refl _) (.bl _)
theorem pd_non {j p} : PE X (.Constant .none j p) (tData .none) := pe_weak pe_non fun _ H Q q => q H _ (Same.refl _) .non
theorem pd_str {x : Str} {j p} : PE X (.Constant (.str x) j p) (tData (.str x)) := pe_weak pe_str fun _ H Q q => q H _ (Same.refl _) (.str _)
theorem pd_dict : PE X (.Dict [] [] pos) (tData (.dict [])) := pe_weak pe_dnewK fun _ H Q q p np => q _ _ (same_upd np) (.dk (fresh_of np upd_same))
theorem pds_nil : PA X [] (tDatas []) := pa_weak pa_nil fun _ H Q q => q H [] (Same.refl _) Drs.nil
theorem pds_cons (ha : PE X e (tData d)) (hr : PA X es (tDatas ds)) (hs : starEach (e :: es) X.env = (false, eval e X.env) :: starEach es X.env := by rfl) : PA X (e :: es) (tDatas (d :: ds)) :=
  pa_weak (pa_cons ha hr hs) fun _ H Q q H1 v s1 h1 H2 vs s2 h2 => q H2 (v :: vs) (s1.trans s2) (Drs.cons (Dr.mono h1 (fresh_up s2)) (Drs.mono h2 (fresh_dn s1)))
theorem pd_tup {x1} (h : PA X es (tDatas ds)) (l : ds.length ≤ 1000 := by decide) : PE X (.Tuple es x1 pos) (tData (.tuple ds)) :=
  pe_weak (pe_tup h) fun _ H Q q H1 vs s1 h1 => ⟨by rw [h1.1]; exact Nat.le_trans l (by decide), fun p np => q _ _ (s1.trans (same_upd np)) (Dr.ts (fresh_of (s1.free np) upd_same) (Drs.mono h1 (fresh_up (same_upd np))))⟩
theorem pd_lst (h : PA X es (tDatas ds)) (l : ds.length ≤ 1000 := by decide) : PE X (.List es pos) (tData (.list ds)) :=
  pe_weak (pe_lst h) fun _ H Q q H1 vs s1 h1 => ⟨by rw [h1.1]; exact Nat.le_trans l (by decide), fun p np => q _ _ (s1.trans (same_upd np)) (Dr.ls (fresh_of (s1.free np) upd_same) (Drs.mono h1 (fresh_up (same_upd np))))⟩
theorem pd_neg {i : Int} (h : PE X e (tData (.int i))) : PE X (.UnaryOp .USub e pos) (tData (.int (-i))) :=
  pe_weak (pe_un un_neg h) fun _ H Q q H1 v s1 h1 => ⟨i, h1.toInt, q H1 _ s1 (.int _)⟩
theorem pd_pow {f : Expr} {a b : Int} (h : PE X e (tData (.int a))) (h' : PE X f (tData (.int b))) (o : 0 ≤ b ∧ b ≤ 1000000 ∧ a.natAbs < 2 ^ 64 := by decide) : PE X (.BinOp e .Pow f pos) (tData (.int (a ^ b.toNat))) :=
  pe_weak (pe_op op_pow h h') fun _ H Q q H1 v s1 h1 H2 u s2 h2 => ⟨a, b, h1.toInt, h2.toInt, o, q H2 _ (s1.trans s2) (.int _)⟩
theorem pd_add {f : Expr} {a b : Int} (h : PE X e (tData (.int a))) (h' : PE X f (tData (.int b))) : PE X (.BinOp e .Add f pos) (tData (.int (a + b))) :=
  pe_weak (pe_op op_add h h') fun _ H Q q H1 v s1 h1 H2 u s2 h2 => ⟨a, b, h1.toInt, h2.toInt, q H2 _ (s1.trans s2) (.int _)⟩
theorem pd_sub {f : Expr} {a b : Int} (h : PE X e (tData (.int a))) (h' : PE X f (tData (.int b))) : PE X (.BinOp e .Sub f pos) (tData (.int (a - b))) :=
  pe_weak (pe_op op_sub h h') fun _ H Q q H1 v s1 h1 H2 u s2 h2 => ⟨a, b, h1.toInt, h2.toInt, q H2 _ (s1.trans s2) (.int _)⟩
end
end RL

set_option maxHeartbeats 1000000
namespace RL
open PySem L2 PySem.Spec PyProof.Rows
theorem sum_lenS {r : List Sh} (h : ∀ s ∈ r, ShSm s) : ((r.map shT).map (·.length)).sum ≤ 700 * r.length := by
  induction r with
  | nil => exact Nat.le_refl _
  | cons p r ih =>
    have h1 := ih fun s hs => h s (List.mem_cons_of_mem _ hs)
    have h2 := (shT_ok (h p List.mem_cons_self)).len
    simp only [List.map_cons, List.sum_cons, List.length_cons]
    omega
theorem Shs.snoc_inv {H : Hp} {ws : List V} {r : List Sh} {s : Sh} (h : Shs H ws (r ++ [s])) : ∃ ws0 v, ws = ws0 ++ [v] ∧ Shs H ws0 r ∧ ShAt H v s := by
  induction r generalizing ws with
  | nil =>
    cases h with
    | cons a b =>
      cases b
      exact ⟨[], _, rfl, .nil, a⟩
  | cons t r ih =>
    cases h with
    | cons a b =>
      obtain ⟨ws0, v, rfl, h1, h2⟩ := ih b
      exact ⟨_ :: ws0, v, rfl, .cons a h1, h2⟩
theorem form_endless : ∀ {r : List Sh} {b f l : Int}, Form b (r ++ [(f, some l)]) → Form b (r ++ [(f, none)])
  | [], b, f, l, h => by
    have h' : Form b [(f, some l)] := h
    unfold Form at h'
    show Form b [(f, none)]
    unfold Form
    exact ⟨h'.1, rfl⟩
  | (g, none) :: r, b, f, l, h => by
    have h' : Form b ((g, none) :: (r ++ [(f, some l)])) := h
    unfold Form at h'
    exact absurd h'.2 (by simp)
  | (g, some m) :: r, b, f, l, h => by
    have h' : Form b ((g, some m) :: (r ++ [(f, some l)])) := h
    unfold Form at h'
    show Form b ((g, some m) :: (r ++ [(f, none)]))
    unfold Form
    exact ⟨h'.1, h'.2.1, form_endless h'.2.2⟩
def CutOk (r : List Sh) (pl : Int) : Prop := Form 0 r ∧ endsBy r (pl - 2) ∧ 0 ≤ pl
theorem CutOk.step {r : List Sh} {pl k m : Int} (h : CutOk r pl) (hk : 0 ≤ k) (hm : 0 ≤ m) : CutOk (r ++ [(pl, some (pl + k))]) (pl + k + 2 + m) := by
  obtain ⟨h1, h2, h3⟩ := h
  refine ⟨?_, ?_, by omega⟩
  · refine form_app h1 h2 ?_ (by omega)
    unfold Form
    refine ⟨by omega, by omega, ?_⟩
    unfold Form
    trivial
  · intro s hs
    rcases List.mem_append.mp hs with hs | hs
    · obtain ⟨e, e1, e2⟩ := h2 s hs
      exact ⟨e, e1, by omega⟩
    · rw [List.mem_singleton] at hs
      subst hs
      exact ⟨pl + k, rfl, by omega⟩
def Bnd (r : List Sh) : Prop := ∀ s ∈ r, 0 ≤ s.1 ∧ s.1 ≤ 100000000000000000000000000000000 ∧ ∀ l, s.2 = some l → l ≤ 100000000000000000000000000000000
theorem form_in : ∀ {r : List Sh} {b : Int}, Form b r → 0 ≤ b → ∀ s ∈ r, 0 ≤ s.1 ∧ ∀ l, s.2 = some l → s.1 ≤ l
  | [], _, _, _, s, h => nomatch h
  | (f, none) :: r, b, h, hb, s, hs => by
    unfold Form at h
    rw [h.2] at hs
    rw [List.mem_singleton] at hs
    rw [hs]
    exact ⟨by dsimp; omega, fun l e => by cases e⟩
  | (f, some l) :: r, b, h, hb, s, hs => by
    unfold Form at h
    rcases List.mem_cons.mp hs with rfl | hs
    · exact ⟨by dsimp; omega, fun l e => by cases e; exact h.2.1⟩
    · exact form_in h.2.2 (by omega) s hs
theorem cut_bound {r : List Sh} {pl : Int} (h : CutOk r pl) (hp : pl ≤ 100000000000000000000000000000000) : Bnd r := fun s hs => by
  obtain ⟨f1, f2⟩ := form_in h.1 (by decide) s hs
  obtain ⟨e, e1, e2⟩ := h.2.1 s hs
  have := f2 e e1
  refine ⟨f1, by omega, fun l el => ?_⟩
  rw [e1] at el
  cases el
  omega
theorem bound_end {r : List Sh} {f l : Int} (h : Bnd (r ++ [(f, some l)])) : Bnd (r ++ [(f, none)]) := fun s hs => by
  rcases List.mem_append.mp hs with hs | hs
  · exact h s (List.mem_append_left _ hs)
  · rw [List.mem_singleton] at hs
    rw [hs]
    obtain ⟨a, b, _⟩ := h (f, some l) (List.mem_append_right _ (List.mem_singleton.mpr rfl))
    exact ⟨a, b, fun l e => by cases e⟩
def spCuts : Sp := fun vs H Q _ => ∃ c : Addr, vs = [.ref c] ∧ CupAt c H ∧ ∀ H' a r, But c H H' → CupAt c H' → H a = none → a ≠ c → ShL H' a r → Form 0 r → Bnd r → r.length ≤ 5 → Q (.ref a) H'
def spHolds : Sp := fun vs H Q _ => ∃ (a : Addr) (n : Int) (r : List Sh), vs = [.ref a, .int n] ∧ ShL H a r ∧ r.length ≤ 1000 ∧ ∀ H', Same H H' → Q (.bl (heldb r n)) H'
def spEdges : Sp := fun vs H Q _ => ∃ (a : Addr) (r : List Sh), vs = [.ref a] ∧ ShL H a r ∧ r.length ≤ 5 ∧ ∀ (H' : Hp) (z : Addr) (ns : List Int), Same H H' → H z = none → H' z = some (.lst (ns.map V.int)) → (∀ n ∈ ns, 0 ≤ n) → ns.length ≤ 100 → Q (.ref z) H'
def spSet (C : Addr) : Sp := fun vs H Q _ => ∃ (a : Addr) (r : List Sh), vs = [.ref a] ∧ ShL H a r ∧ Form 0 r ∧ r.length ≤ 5 ∧ ∀ H' z, Same H H' → H z = none → NumAt C H' z r → Q (.ref z) H'
section
variable {P : Program} {w : World} {K : PySem.W.Frag} {mg : Str → Option Value} {base : Heap} {C fN : Addr}
abbrev s_law_cuts : Stmt := top 23
theorem sc_law_cuts : FnScope ["_law_cup_here", "_law_found", "_law_place", "_law_turn", "_law_last"] ["_law_cup_here"] (defScope s_law_cuts) := ⟨rfl, rfl, rfl, by decide +kernel, rfl, by decide +kernel, by decide +kernel⟩

theorem ok_cuts {f : Addr} {fd : FuncData} (F : Fun K "_law_cuts" "_law_cuts" s_law_cuts f fd) (T : Txt K mg) (D_law_sip : Df P w K mg base 1 "_law_sip" ["_law_cup_here", "_law_many"] spSip) (D_law_pick : Df P w K mg base 2 "_law_pick" ["_law_cup_here", "_law_things"] spPick) : FnOk P w K mg base CX0 3 f fd ["_law_cup_here"] spCuts := by
  refine F.ok sc_law_cuts (fun vs H Q E h => ?_) (fun cdv A outer s H vs Q E hr h => ?_)
  · obtain ⟨c, rfl, _⟩ := h
    rfl
  · obtain ⟨c, rfl, hc, k⟩ := h
    refine ⟨_, (pss_cons (ps_par (by rfl) sc_law_cuts.nd (i := 1) (j := 2) rfl rfl (by decide) rfl rfl (pa_cons (pe_lst pa_nil) (pa_cons (pe_df D_law_sip (hr.mono (by decide)) (by rfl) (pa_cons (pv 0) (pa_cons pe_int pa_nil))) pa_nil)) (by rfl))
      (pss_cons (ps_for PassesOwn.never rfl (pi_range1 rfl T.range (pa_cons (pe_df D_law_sip (hr.mono (by decide)) (by rfl) (pa_cons (pv 0) (pa_cons pe_int pa_nil))) pa_nil)) (pg_name (i := 3) sc_law_cuts.nd rfl (.inl rfl)) (pss_cons (ps_set (i := 4) sc_law_cuts.nd rfl (.inl rfl) (pe_op op_add (pv 2) (pe_df D_law_pick (hr.mono (by decide)) (by rfl) (pa_cons (pv 0) (pa_cons (pe_lst (pa_cons pe_int (pa_cons pe_int (pa_cons pe_int (pa_cons pe_int (pa_cons pe_int (pa_cons (pe_op op_pow pe_int pe_int) pa_nil))))))) pa_nil)))))
      (pss_cons (ps_expr (pe_bm PySem.F.plainAttrs_list PySem.F.slot_list_append PySem.F.type_list_append mt_append (pv 1) (pa_cons (pe_tup (pa_cons (pv 2) (pa_cons (pv 4) pa_nil))) pa_nil)))
      (pss_one (ps_set (i := 2) sc_law_cuts.nd rfl (.inl rfl) (pe_op op_add (pe_op op_add (pv 4) pe_int) (pe_df D_law_pick (hr.mono (by decide)) (by rfl) (pa_cons (pv 0) (pa_cons (pe_lst (pa_cons pe_int (pa_cons pe_int (pa_cons pe_int (pa_cons (pe_op op_pow pe_int pe_int) pa_nil))))) pa_nil)))))))))
      (pss_cons (ps_if (PW.pt (pw_and (pt_cmpR (op_neD hr.units) (pv 1) (pe_lst pa_nil) (nomark _)) (pw_and1 (pt_cmpR op_eq (pe_df D_law_sip (hr.mono (by decide)) (by rfl) (pa_cons (pv 0) (pa_cons pe_int pa_nil))) pe_int (nomark _))))) (pss_one (ps_asg (pe_tup (pa_cons (pe_ix ix_tup (pe_ix ix_list (pv 1) (pe_un un_neg pe_int) (fun _ _ => rfl)) pe_int (fun _ _ => rfl)) (pa_cons pe_non pa_nil))) (pg_sub (pv 1) (pe_un un_neg pe_int) set_list))) pss_nil)
      (pss_one (ps_ret (pv 1)))))), ?_⟩
    refine ⟨Nat.zero_le _, fun l nl => ?_⟩
    have s0 := same_upd (o := .lst []) nl
    have hl0 : (upd H l (.lst [])) l = some (.lst []) := upd_same
    have hc0 := hc.same s0
    have ncl : l ≠ c := (hc.ne nl).symm
    generalize upd H l (.lst []) = H0 at *
    refine ⟨_, rfl, c, 4, rfl, hc0, by decide, (by unfold Sm; decide), fun H1 p0 b1 hc1 p00 p01 => ⟨_, _, rfl, ?_⟩⟩
    refine ⟨_, rfl, c, 6, rfl, hc1, by decide, (by unfold Sm; decide), fun H2 n b2 hc2 n0 n1 => ⟨n, rfl, by omega, by omega, ?_⟩⟩
    have e30 : (10 : Int) ^ Int.toNat 30 = 1000000000000000000000000000000 := by decide
    have e12 : (10 : Int) ^ Int.toNat 12 = 1000000000000 := by decide
    have notT : ∀ {H' : Hp}, CupAt c H' → ∀ xs, H' c ≠ some (.tup xs) := fun h xs z => by obtain ⟨u, v, h, _⟩ := h; rw [h] at z; cases z
    refine for_range (lo := 0) (n := n.toNat) (fun i σ H' => But c H H' ∧ CupAt c H' ∧ ∃ (pl : Int) (r : List Sh) (v1 v2 : Option V), σ = [some (.ref c), some (.ref l), some (.int pl), v1, v2] ∧ ShL H' l r ∧ CutOk r pl ∧ r.length = i ∧ pl ≤ 4 + 3000000000000000000000000000000 * (i : Int)) ⟨(But.of s0).trans (b1.trans b2), hc2, p0, [], _, _, rfl, ⟨[], b2 _ _ ncl (b1 _ _ ncl hl0), .nil⟩, ⟨by unfold Form; trivial, (fun s hs => by cases hs), p00⟩, rfl, by omega⟩ ?_ ?_
    · rintro i σ H3 hi ⟨b3, hc3, pl, r, v1, v2, rfl, ⟨ws, hl3, hw⟩, ho, lr, pb⟩
      have i6 : i < 6 := by omega
      refine ⟨_, rfl, _, rfl, _, _, rfl, rfl, ⟨by decide, by decide, by decide⟩, (by show 6 ≤ sizeLine; decide), fun m nm => ?_⟩
      have sm := same_upd (o := .lst [.int 0, .int 0, .int 1, .int 5, .int 40, .int ((10 : Int) ^ Int.toNat 30)]) nm
      refine ⟨c, m, _, rfl, hc3.same sm, hc3.ne nm, upd_same, by show 0 < 6; decide, by show 6 ≤ 100; decide, fun H4 v4 b4 hc4 hv4 => ?_⟩
      obtain ⟨k4, rfl, k40, k41⟩ : ∃ k4 : Int, v4 = .int k4 ∧ 0 ≤ k4 ∧ k4 ≤ 1000000000000000000000000000000 := by
        have hv4 : v4 ∈ [V.int 0, .int 0, .int 1, .int 5, .int 40, .int ((10 : Int) ^ Int.toNat 30)] := hv4
        rw [e30] at hv4
        simp only [List.mem_cons, List.not_mem_nil, or_false] at hv4
        rcases hv4 with rfl | rfl | rfl | rfl | rfl | rfl <;> exact ⟨_, rfl, by decide, by decide⟩
      have bb := (But.of (c := c) sm).trans b4
      have hl4 := bb _ _ ncl hl3
      have hw4 := hw.but bb (notT hc3)
      refine ⟨_, _, rfl, rfl, ?_⟩
      refine ⟨_, rfl, .inl ⟨rfl, _, SqL.of hl4⟩, _, rfl, _, rfl, (by show 2 ≤ sizeLine; decide), fun t nt => ?_⟩
      have st := same_upd (o := .tup [.int pl, .int (pl + k4)]) nt
      have hl5 := st _ _ hl4
      have bt : But l (upd H4 t (.tup [.int pl, .int (pl + k4)])) (upd (upd H4 t (.tup [.int pl, .int (pl + k4)])) l (.lst (ws ++ [.ref t]))) := But.upd
      refine ⟨l, _, _, rfl, rfl, hl5, small1000 (by rw [hw.length]; omega), ?_⟩
      have hl6 : (upd (upd H4 t (.tup [.int pl, .int (pl + k4)])) l (.lst (ws ++ [.ref t]))) l = some (.lst (ws ++ [.ref t])) := upd_same
      have hw6 : Shs (upd (upd H4 t (.tup [.int pl, .int (pl + k4)])) l (.lst (ws ++ [.ref t]))) (ws ++ [.ref t]) (r ++ [(pl, some (pl + k4))]) := ((hw4.same st).app (.cons ⟨t, rfl, upd_same⟩ .nil)).but bt (fun xs z => by rw [hl5] at z; cases z)
      have hc6 : CupAt c (upd (upd H4 t (.tup [.int pl, .int (pl + k4)])) l (.lst (ws ++ [.ref t]))) := by
        obtain ⟨u, v, h, z⟩ := hc4
        exact ⟨u, v, bt _ _ ncl.symm (st _ _ h), z⟩
      have b6 : But c H (upd (upd H4 t (.tup [.int pl, .int (pl + k4)])) l (.lst (ws ++ [.ref t]))) := fun b o nb e => bt _ _ (ne_of_none e nl) (st _ _ (bb _ _ nb (b3 _ _ nb e)))
      generalize upd (upd H4 t (.tup [.int pl, .int (pl + k4)])) l (.lst (ws ++ [.ref t])) = H6 at *
      refine ⟨_, rfl, _, _, rfl, rfl, ?_⟩
      refine ⟨_, rfl, _, _, rfl, rfl, ⟨by decide, by decide, by decide⟩, (by show 4 ≤ sizeLine; decide), fun m2 nm2 => ?_⟩
      have sm2 := same_upd (o := .lst [.int 0, .int 0, .int 3, .int ((10 : Int) ^ Int.toNat 12)]) nm2
      refine ⟨c, m2, _, rfl, hc6.same sm2, hc6.ne nm2, upd_same, by show 0 < 4; decide, by show 4 ≤ 100; decide, fun H7 v7 b7 hc7 hv7 => ?_⟩
      obtain ⟨k7, rfl, k70, k71⟩ : ∃ k7 : Int, v7 = .int k7 ∧ 0 ≤ k7 ∧ k7 ≤ 1000000000000 := by
        have hv7 : v7 ∈ [V.int 0, .int 0, .int 3, .int ((10 : Int) ^ Int.toNat 12)] := hv7
        rw [e12] at hv7
        simp only [List.mem_cons, List.not_mem_nil, or_false] at hv7
        rcases hv7 with rfl | rfl | rfl | rfl <;> exact ⟨_, rfl, by decide, by decide⟩
      have b67 := (But.of (c := c) sm2).trans b7
      exact ⟨_, _, rfl, rfl, b6.trans b67, hc7, pl + k4 + 2 + k7, _, _, _, rfl, ⟨_, b67 _ _ ncl hl6, hw6.but b67 (notT hc6)⟩, ho.step k40 k70, by rw [List.length_append, lr]; rfl, by omega⟩
    · rintro σ H3 ⟨b3, hc3, pl, r, v1, v2, rfl, hL, ho, lr, pb⟩
      have bnd := cut_bound ho (show pl ≤ 100000000000000000000000000000000 by omega)
      have l5 : r.length ≤ 5 := by omega
      refine ⟨_, rfl, Nat.zero_le _, fun l2 nl2 => ?_⟩
      have s2 := same_upd (o := .lst []) nl2
      have hL2 := hL.same s2
      refine ⟨.list (rowD r), .list [], dp_shL hL2, .lst (SqL.of upd_same) .nil, sh_rowL r, rfl, ?_⟩
      have hc4 := hc3.same s2
      have b4 : But c H (upd H3 l2 (.lst [])) := b3.trans (But.of s2)
      generalize upd H3 l2 (.lst []) = H4 at *
      refine ⟨_, rfl, ite2 (fun e => ?_) (fun e => ?_)⟩
      · refine ⟨_, rfl, c, 2, rfl, hc4, by decide, (by unfold Sm; decide), fun H5 v b5 hc5 v0 v1' => ⟨rfl, _, rfl, ite2 (fun e2 => ?_) (fun e2 => ?_)⟩⟩
        · rcases List.eq_nil_or_concat r with rfl | ⟨r0, s, rfl⟩
          · simp [rowD, PyData.eqv, PyData.eqvAll] at e
          rw [List.concat_eq_append] at *
          obtain ⟨ws, hl4, hw4⟩ := hL2
          have hl5 := b5 _ _ ncl hl4
          obtain ⟨ws0, v', rfl, hw0, t, rfl, ht⟩ := (hw4.but b5 (notT hc4)).snoc_inv
          obtain ⟨fi, la⟩ := s
          obtain ⟨l0, e0, _⟩ := ho.2.1 (fi, la) (by simp)
          cases e0
          refine ⟨_, rfl, _, rfl, l, _, _, _, rfl, rfl, SqL.of hl5, atI_last _ _, t, _, _, _, rfl, rfl, SqT.of ht, atI_nat (j := 0) rfl, (by show 2 ≤ sizeLine; decide), fun p np => ?_⟩
          have sp := same_upd (o := .tup [.int fi, .non]) np
          have hl6 := sp _ _ hl5
          have ix : ixN (ws0 ++ [V.ref t]).length (-1) = some ws0.length := by
            unfold ixN
            rw [List.length_append]
            simp
            omega
          refine ⟨_, rfl, _, rfl, l, _, _, _, rfl, rfl, hl6, ix, ?_⟩
          have es : (ws0 ++ [V.ref t]).set ws0.length (.ref p) = ws0 ++ [.ref p] := by simp
          rw [es]
          have bt : But l (upd H5 p (.tup [.int fi, .non])) (upd (upd H5 p (.tup [.int fi, .non])) l (.lst (ws0 ++ [.ref p]))) := But.upd
          refine ⟨_, rfl, k _ l (r0 ++ [(fi, none)]) ?_ ?_ nl ncl ⟨_, upd_same, ?_⟩ (form_endless ho.1) (bound_end bnd) (by rw [List.length_append] at l5 ⊢; exact l5)⟩
          · exact fun b o nb e => bt _ _ (ne_of_none e nl) (sp _ _ (b5 _ _ nb (b4 _ _ nb e)))
          · obtain ⟨u, v, h, z⟩ := hc5
            exact ⟨u, v, bt _ _ ncl.symm (sp _ _ h), z⟩
          · exact ((hw0.same sp).app (.cons ⟨p, rfl, upd_same⟩ .nil)).but bt (fun xs z => by rw [hl6] at z; cases z)
        · obtain ⟨ws, hl4, hw4⟩ := hL2
          exact ⟨_, rfl, k _ l r (b4.trans b5) hc5 nl ncl ⟨ws, b5 _ _ ncl hl4, hw4.but b5 (notT hc4)⟩ ho.1 bnd l5⟩
      · exact ⟨_, rfl, k _ l r b4 hc4 nl ncl hL2 ho.1 bnd l5⟩
abbrev s_law_holds : Stmt := top 24
theorem sc_law_holds : FnScope ["_law_cuts_here", "_law_place", "_law_first_here", "_law_last"] ["_law_cuts_here", "_law_place"] (defScope s_law_holds) := ⟨rfl, rfl, rfl, by decide +kernel, rfl, by decide +kernel, by decide +kernel⟩

theorem ok_holds {f : Addr} {fd : FuncData} (F : Fun K "_law_holds" "_law_holds" s_law_holds f fd) (T : TxtN K mg C) : FnOk P w K mg base CX0 1 f fd ["_law_cuts_here", "_law_place"] spHolds := by
  refine F.ok sc_law_holds (fun vs H Q E h => ?_) (fun cdv A outer s H vs Q E hr h => ?_)
  · obtain ⟨a, n, r, rfl, _⟩ := h
    rfl
  · obtain ⟨a, n, r, rfl, ⟨ws, ha, hw⟩, len, k⟩ := h
    refine ⟨_, (pss_one (ps_ret (pe_callB (cr_any rfl) (by rfl) T.any (by decide +kernel) (pa_cons (pe_lc (own := [("_law_first_here", 2), ("_law_last", 3)]) (g := gTup K 2 (gCons (gName 2) (gCons (gName 3) gNil))) (tt := tYes) rfl sc_law_holds.nd (pi_list (pv 0)) (blkOk_by (N := ["_law_cuts_here", "_law_place", "_law_first_here", "_law_last"]) (sc := defScope s_law_holds) (by decide +kernel)) (fun _ _ _ _ _ => pg_tup rfl (pgs_cons (pg_name (i := 2) sc_law_holds.nd rfl (Or.inl rfl)) (pgs_cons (pg_name (i := 3) sc_law_holds.nd rfl (Or.inl rfl)) pgs_nil))) (fun _ _ _ _ _ => pts_nil) (fun _ _ _ _ _ => (pe_and (pe_cmpR op_le (pv 2) (pv 1) (nomark _)) (pe_one (pe_or (pe_cmpR op_isN (pv 3) pe_non (nomark _)) (pe_one (pe_cmpR op_le (pv 1) (pv 3) (nomark _)))))))) pa_nil)))), ?_⟩
    refine ⟨_, rfl, a, rfl, ⟨_, SqL.of ha⟩, fun D hD => ?_⟩
    refine lc_list (K := K) (a := a) (xs := ws) (fun i H' => But D H H' ∧ H' D = some (.lst (((r.take i).map fun s => inb s n).map V.bl))) ⟨But.upd, upd_same⟩ (fun i H' _ h => SqL.of (h.1 _ _ (ne_of_none ha hD) ha)) ?_ ?_
    · rintro i y H' hy ⟨bD, hDi⟩
      obtain ⟨⟨fi, la⟩, hs, t, rfl, ht⟩ := hw.at_ hy
      have ht1 := bD _ _ (ne_of_none ht hD) ht
      have il : i < r.length := (List.getElem?_eq_some_iff.mp hs).1
      refine ⟨t, _, rfl, SqT.of ht1, rfl, _, _, rfl, _, _, rfl, rfl, rfl, ?_⟩
      unfold tYes
      refine iteT ?_
      have fin : ∀ b : Bool, inb (fi, la) n = b → ∃ acc, H' D = some (.lst acc) ∧ acc.length < sizeLine ∧ But D H (upd H' D (.lst (acc ++ [.bl b]))) ∧ (upd H' D (.lst (acc ++ [.bl b]))) D = some (.lst (((r.take (i + 1)).map fun s => inb s n).map V.bl)) := fun b eb => by
        refine ⟨_, hDi, ?_, ?_, ?_⟩
        · rw [List.length_map, List.length_map, List.length_take]
          exact small1000 (by omega)
        · intro q' o nq e'
          rw [upd_ne nq]
          exact bD _ _ nq e'
        · rw [upd_same, List.take_succ, hs]
          simp [eb]
      have ei : inb (fi, la) n = (decide (fi ≤ n) && endOk n la) := rfl
      refine ⟨_, rfl, _, rfl, _, _, rfl, rfl, _, rfl, ite2 (fun e => ?_) (fun e => ?_)⟩
      · have e0 : decide (fi ≤ n) = true := e
        rw [e0, Bool.true_and] at ei
        cases la with
        | none => exact ⟨_, rfl, rfl, true, rfl, iteT (fin true ei)⟩
        | some l => exact ⟨_, rfl, rfl, false, rfl, iteF ⟨_, rfl, _, rfl, _, _, rfl, rfl, fin _ ei⟩⟩
      · have e0 : decide (fi ≤ n) = false := by
          cases q : decide (fi ≤ n) with
          | true => exact absurd q e
          | false => rfl
        rw [e0, Bool.false_and] at ei
        exact fin false ei
    · rintro H' ⟨bD, hDn⟩
      rw [hw.length, List.take_length] at hDn
      refine ⟨D, _, rfl, SqL.of hDn, ?_⟩
      have e : (r.map fun s => inb s n).any id = heldb r n := by
        unfold heldb
        rw [List.any_map]
        rfl
      rw [e]
      exact k _ fun q o e => bD _ _ (ne_of_none e hD) e
abbrev s_law_edges : Stmt := top 26
theorem sc_law_edges : FnScope ["_law_cuts_here", "_law_found", "_law_first_here", "_law_last", "_law_end", "_law_step"] ["_law_cuts_here"] (defScope s_law_edges) := ⟨rfl, rfl, rfl, by decide +kernel, rfl, by decide +kernel, by decide +kernel⟩

theorem ok_edges {f : Addr} {fd : FuncData} (F : Fun K "_law_edges" "_law_edges" s_law_edges f fd) (T : Txt K mg) : FnOk P w K mg base CX0 1 f fd ["_law_cuts_here"] spEdges := by
  refine F.ok sc_law_edges (fun vs H Q E h => ?_) (fun cdv A outer s H vs Q E hr h => ?_)
  · obtain ⟨a, r, rfl, _⟩ := h
    rfl
  · obtain ⟨a, r, rfl, ⟨ws, ha, hw⟩, l5, k⟩ := h
    refine ⟨_, (pss_cons (ps_set (i := 1) sc_law_edges.nd rfl (.inl rfl) (pe_lst (pa_cons pe_int (pa_cons pe_int pa_nil))))
      (pss_cons (ps_for PassesOwn.never rfl (pi_list (pv 0)) (pg_tup rfl (pgs_cons (pg_name (i := 2) sc_law_edges.nd rfl (.inl rfl)) (pgs_cons (pg_name (i := 3) sc_law_edges.nd rfl (.inl rfl)) pgs_nil))) (pss_one (ps_for PassesOwn.never rfl (pi_list (pe_ifExp (pt_cmpR op_isN (pv 3) pe_non (nomark _)) (pe_lst (pa_cons (pv 2) pa_nil)) (pe_lst (pa_cons (pv 2) (pa_cons (pv 3) pa_nil))))) (pg_name (i := 4) sc_law_edges.nd rfl (.inr rfl)) (pss_one (ps_set (i := 1) sc_law_edges.nd rfl (.inl rfl) (pe_op op_cat (pv 1) (pe_lc (own := [("_law_step", 5)]) (g := gName 5) rfl sc_law_edges.nd (pi_list (pe_lst (pa_cons (pe_un un_neg pe_int) (pa_cons (pe_un un_neg pe_int) (pa_cons pe_int (pa_cons pe_int (pa_cons pe_int pa_nil))))))) (blkOk_by (N := ["_law_cuts_here", "_law_found", "_law_first_here", "_law_last", "_law_end", "_law_step"]) (sc := defScope s_law_edges) (by decide +kernel)) (fun _ _ _ _ _ => pg_name (i := 5) sc_law_edges.nd rfl (Or.inl rfl)) (fun _ _ _ _ _ => (pts_one (pt_cmpR op_ge (pe_op op_add (pv 4) (pv 5)) pe_int (nomark _)))) (fun _ _ _ _ _ => (pe_op op_add (pv 4) (pv 5))))))))))
      (pss_one (ps_ret (pv 1))))), ?_⟩
    refine ⟨(by show 2 ≤ sizeLine; decide), fun z0 nz0 => ?_⟩
    have s0 := same_upd (o := .lst [.int 0, .int 1]) nz0
    have hz0 : (upd H z0 (.lst [.int 0, .int 1])) z0 = some (.lst (([0, 1] : List Int).map V.int)) := upd_same
    generalize upd H z0 (.lst [.int 0, .int 1]) = H0 at *
    refine ⟨_, rfl, a, rfl, ⟨_, SqL.of (s0 _ _ ha)⟩, ?_⟩
    refine for_list (K := K) (a := a) (xs := ws) (fun i σ H' => Same H H' ∧ ∃ (z : Addr) (ns : List Int) (v2 v3 v4 v5 : Option V), σ = [some (.ref a), some (.ref z), v2, v3, v4, v5] ∧ H z = none ∧ H' z = some (.lst (ns.map V.int)) ∧ (∀ n ∈ ns, 0 ≤ n) ∧ ns.length ≤ 2 + 10 * i) ⟨s0, z0, [0, 1], _, _, _, _, rfl, nz0, hz0, (fun n hn => by simp at hn; omega), by decide⟩ (fun i σ H' _ h => SqL.of (h.1 _ _ ha)) ?_ ?_
    · rintro i y σ H1 hy ⟨s1, z1, ns1, v2, v3, v4, v5, rfl, nz1, hz1, hp1, len1⟩
      obtain ⟨⟨fi, la⟩, hs, t, rfl, ht⟩ := hw.at_ hy
      have ht := s1 _ _ ht
      have i5 : i < 5 := by
        have := (List.getElem?_eq_some_iff.mp hs).1
        omega
      refine ⟨t, _, rfl, SqT.of ht, rfl, _, _, rfl, _, _, rfl, rfl, ?_⟩
      cases la with
      | none =>
        refine ⟨_, rfl, rfl, true, rfl, iteT ?_⟩
        refine ⟨_, rfl, (by show 1 ≤ sizeLine; decide), fun m nm => ?_⟩
        have sm := same_upd (o := .lst [V.int ((fi, none) : Sh).1]) nm
        have hm : (upd H1 m (.lst [V.int ((fi, none) : Sh).1])) m = some (.lst (([fi] : List Int).map V.int)) := upd_same
        have s2 := s1.trans sm
        have hz2 := sm _ _ hz1
        refine ⟨m, rfl, ⟨_, SqL.of hm⟩, ?_⟩
        generalize upd H1 m (.lst [V.int ((fi, none) : Sh).1]) = H2 at *
        refine for_list (K := K) (a := m) (xs := ([fi] : List Int).map V.int) (fun j σ H' => Same H H' ∧ H' m = some (.lst (([fi] : List Int).map V.int)) ∧ ∃ (z : Addr) (ns : List Int) (u4 u5 : Option V), σ = [some (.ref a), some (.ref z), some (.int fi), some (eV none), u4, u5] ∧ H z = none ∧ H' z = some (.lst (ns.map V.int)) ∧ (∀ n ∈ ns, 0 ≤ n) ∧ ns.length ≤ 2 + 10 * i + 5 * j) ⟨s2, hm, z1, ns1, _, _, rfl, nz1, hz2, hp1, by omega⟩ (fun j σ H' _ h => SqL.of h.2.1) ?_ ?_
        · rintro j y σ H3 hj ⟨s3, hm3, z3, ns3, u4, u5, rfl, nz3, hz3, hp3, len3⟩
          obtain ⟨en, rfl⟩ : ∃ en : Int, y = .int en := by
            rw [List.getElem?_map] at hj
            cases q : ([fi] : List Int)[j]? with
            | none =>
              rw [q] at hj
              cases hj
            | some u =>
              rw [q] at hj
              exact ⟨u, (Option.some.inj hj).symm⟩
          have j2 : j < 2 := by
            have := (List.getElem?_eq_some_iff.mp hj).1
            rw [List.length_map] at this
            have e0 : ([fi] : List Int).length = 1 := rfl
            omega
          refine ⟨_, rfl, _, rfl, _, rfl, (by show 5 ≤ sizeLine; decide), fun q nq => ?_⟩
          have sq := same_upd (o := .lst [.int (-2), .int (-1), .int 0, .int 1, .int 2]) nq
          have hq : (upd H3 q (.lst [.int (-2), .int (-1), .int 0, .int 1, .int 2])) q = some (.lst [.int (-2), .int (-1), .int 0, .int 1, .int 2]) := upd_same
          refine ⟨q, rfl, ⟨_, SqL.of hq⟩, fun D hD => ?_⟩
          have hz4 := sq _ _ hz3
          have hm4 := sq _ _ hm3
          have s4 := s3.trans sq
          generalize upd H3 q (.lst [.int (-2), .int (-1), .int 0, .int 1, .int 2]) = H4 at *
          refine lc_list (K := K) (a := q) (xs := [.int (-2), .int (-1), .int 0, .int 1, .int 2]) (fun g H' => But D H4 H' ∧ ∃ ms : List Int, H' D = some (.lst (ms.map V.int)) ∧ (∀ n ∈ ms, 0 ≤ n) ∧ ms.length ≤ g) ⟨But.upd, [], upd_same, (fun n hn => by cases hn), Nat.le_refl _⟩ (fun g H' _ h => SqL.of (h.1 _ _ (ne_of_none hq hD) hq)) ?_ ?_
          · rintro g y H' hg ⟨bD, ms, hDi, hms, lms⟩
            obtain ⟨st, rfl⟩ : ∃ st : Int, y = .int st := by
              match g, hg with
              | 0, hg => cases hg; exact ⟨_, rfl⟩
              | 1, hg => cases hg; exact ⟨_, rfl⟩
              | 2, hg => cases hg; exact ⟨_, rfl⟩
              | 3, hg => cases hg; exact ⟨_, rfl⟩
              | 4, hg => cases hg; exact ⟨_, rfl⟩
            have g5 : g < 5 := (List.getElem?_eq_some_iff.mp hg).1
            refine ⟨rfl, ?_⟩
            refine ⟨_, rfl, _, rfl, _, _, rfl, rfl, _, _, rfl, rfl, _, rfl, ?_⟩
            refine ite2 (fun e => ?_) (fun e => ?_)
            · have e0 : en + st ≥ 0 := of_decide_eq_true e
              refine ⟨_, rfl, _, rfl, _, _, rfl, rfl, _, hDi, ?_, ?_, ms ++ [en + st], ?_, ?_, ?_⟩
              · rw [List.length_map]
                exact small1000 (by omega)
              · intro b' o nb e'
                rw [upd_ne nb]
                exact bD _ _ nb e'
              · rw [upd_same, List.map_append]
                rfl
              · intro n hn
                rcases List.mem_append.mp hn with hn | hn
                · exact hms n hn
                · rw [List.mem_singleton] at hn
                  omega
              · rw [List.length_append]
                show ms.length + 1 ≤ g + 1
                omega
            · exact ⟨bD, ms, hDi, hms, by omega⟩
          · rintro H5 ⟨bD, ms, hDn, hms, lms⟩
            have l5 : ms.length ≤ 5 := lms
            have sD : Same H4 H5 := fun b' o e => bD _ _ (ne_of_none e hD) e
            have hz5 := sD _ _ hz4
            refine ⟨z3, D, _, _, rfl, rfl, hz5, hDn, ?_, fun p np => ?_⟩
            · rw [List.length_map, List.length_map]
              exact Nat.le_of_lt (small1000 (by omega))
            · have sp := same_upd (o := .lst (ns3.map V.int ++ ms.map V.int)) np
              have sA := (s4.trans sD).trans sp
              refine ⟨sA, sp _ _ (sD _ _ hm4), p, ns3 ++ ms, _, _, rfl, (s4.trans sD).free np, ?_, ?_, ?_⟩
              · rw [upd_same, List.map_append]
              · intro n hn
                rcases List.mem_append.mp hn with hn | hn
                · exact hp3 n hn
                · exact hms n hn
              · rw [List.length_append]
                omega
        · rintro σ H3 ⟨s3, hm3, z3, ns3, u4, u5, rfl, nz3, hz3, hp3, len3⟩
          rw [List.length_map] at len3
          have e0 : ([fi] : List Int).length = 1 := rfl
          exact ⟨s3, z3, ns3, _, _, _, _, rfl, nz3, hz3, hp3, by omega⟩
      | some la1 =>
        refine ⟨_, rfl, rfl, false, rfl, iteF ?_⟩
        refine ⟨_, rfl, _, rfl, (by show 2 ≤ sizeLine; decide), fun m nm => ?_⟩
        have sm := same_upd (o := .lst [V.int ((fi, some la1) : Sh).1, eV ((fi, some la1) : Sh).2]) nm
        have hm : (upd H1 m (.lst [V.int ((fi, some la1) : Sh).1, eV ((fi, some la1) : Sh).2])) m = some (.lst (([fi, la1] : List Int).map V.int)) := upd_same
        have s2 := s1.trans sm
        have hz2 := sm _ _ hz1
        refine ⟨m, rfl, ⟨_, SqL.of hm⟩, ?_⟩
        generalize upd H1 m (.lst [V.int ((fi, some la1) : Sh).1, eV ((fi, some la1) : Sh).2]) = H2 at *
        refine for_list (K := K) (a := m) (xs := ([fi, la1] : List Int).map V.int) (fun j σ H' => Same H H' ∧ H' m = some (.lst (([fi, la1] : List Int).map V.int)) ∧ ∃ (z : Addr) (ns : List Int) (u4 u5 : Option V), σ = [some (.ref a), some (.ref z), some (.int fi), some (eV (some la1)), u4, u5] ∧ H z = none ∧ H' z = some (.lst (ns.map V.int)) ∧ (∀ n ∈ ns, 0 ≤ n) ∧ ns.length ≤ 2 + 10 * i + 5 * j) ⟨s2, hm, z1, ns1, _, _, rfl, nz1, hz2, hp1, by omega⟩ (fun j σ H' _ h => SqL.of h.2.1) ?_ ?_
        · rintro j y σ H3 hj ⟨s3, hm3, z3, ns3, u4, u5, rfl, nz3, hz3, hp3, len3⟩
          obtain ⟨en, rfl⟩ : ∃ en : Int, y = .int en := by
            rw [List.getElem?_map] at hj
            cases q : ([fi, la1] : List Int)[j]? with
            | none =>
              rw [q] at hj
              cases hj
            | some u =>
              rw [q] at hj
              exact ⟨u, (Option.some.inj hj).symm⟩
          have j2 : j < 2 := by
            have := (List.getElem?_eq_some_iff.mp hj).1
            rw [List.length_map] at this
            have e0 : ([fi, la1] : List Int).length = 2 := rfl
            omega
          refine ⟨_, rfl, _, rfl, _, rfl, (by show 5 ≤ sizeLine; decide), fun q nq => ?_⟩
          have sq := same_upd (o := .lst [.int (-2), .int (-1), .int 0, .int 1, .int 2]) nq
          have hq : (upd H3 q (.lst [.int (-2), .int (-1), .int 0, .int 1, .int 2])) q = some (.lst [.int (-2), .int (-1), .int 0, .int 1, .int 2]) := upd_same
          refine ⟨q, rfl, ⟨_, SqL.of hq⟩, fun D hD => ?_⟩
          have hz4 := sq _ _ hz3
          have hm4 := sq _ _ hm3
          have s4 := s3.trans sq
          generalize upd H3 q (.lst [.int (-2), .int (-1), .int 0, .int 1, .int 2]) = H4 at *
          refine lc_list (K := K) (a := q) (xs := [.int (-2), .int (-1), .int 0, .int 1, .int 2]) (fun g H' => But D H4 H' ∧ ∃ ms : List Int, H' D = some (.lst (ms.map V.int)) ∧ (∀ n ∈ ms, 0 ≤ n) ∧ ms.length ≤ g) ⟨But.upd, [], upd_same, (fun n hn => by cases hn), Nat.le_refl _⟩ (fun g H' _ h => SqL.of (h.1 _ _ (ne_of_none hq hD) hq)) ?_ ?_
          · rintro g y H' hg ⟨bD, ms, hDi, hms, lms⟩
            obtain ⟨st, rfl⟩ : ∃ st : Int, y = .int st := by
              match g, hg with
              | 0, hg => cases hg; exact ⟨_, rfl⟩
              | 1, hg => cases hg; exact ⟨_, rfl⟩
              | 2, hg => cases hg; exact ⟨_, rfl⟩
              | 3, hg => cases hg; exact ⟨_, rfl⟩
              | 4, hg => cases hg; exact ⟨_, rfl⟩
            have g5 : g < 5 := (List.getElem?_eq_some_iff.mp hg).1
            refine ⟨rfl, ?_⟩
            refine ⟨_, rfl, _, rfl, _, _, rfl, rfl, _, _, rfl, rfl, _, rfl, ?_⟩
            refine ite2 (fun e => ?_) (fun e => ?_)
            · have e0 : en + st ≥ 0 := of_decide_eq_true e
              refine ⟨_, rfl, _, rfl, _, _, rfl, rfl, _, hDi, ?_, ?_, ms ++ [en + st], ?_, ?_, ?_⟩
              · rw [List.length_map]
                exact small1000 (by omega)
              · intro b' o nb e'
                rw [upd_ne nb]
                exact bD _ _ nb e'
              · rw [upd_same, List.map_append]
                rfl
              · intro n hn
                rcases List.mem_append.mp hn with hn | hn
                · exact hms n hn
                · rw [List.mem_singleton] at hn
                  omega
              · rw [List.length_append]
                show ms.length + 1 ≤ g + 1
                omega
            · exact ⟨bD, ms, hDi, hms, by omega⟩
          · rintro H5 ⟨bD, ms, hDn, hms, lms⟩
            have l5 : ms.length ≤ 5 := lms
            have sD : Same H4 H5 := fun b' o e => bD _ _ (ne_of_none e hD) e
            have hz5 := sD _ _ hz4
            refine ⟨z3, D, _, _, rfl, rfl, hz5, hDn, ?_, fun p np => ?_⟩
            · rw [List.length_map, List.length_map]
              exact Nat.le_of_lt (small1000 (by omega))
            · have sp := same_upd (o := .lst (ns3.map V.int ++ ms.map V.int)) np
              have sA := (s4.trans sD).trans sp
              refine ⟨sA, sp _ _ (sD _ _ hm4), p, ns3 ++ ms, _, _, rfl, (s4.trans sD).free np, ?_, ?_, ?_⟩
              · rw [upd_same, List.map_append]
              · intro n hn
                rcases List.mem_append.mp hn with hn | hn
                · exact hp3 n hn
                · exact hms n hn
              · rw [List.length_append]
                omega
        · rintro σ H3 ⟨s3, hm3, z3, ns3, u4, u5, rfl, nz3, hz3, hp3, len3⟩
          rw [List.length_map] at len3
          have e0 : ([fi, la1] : List Int).length = 2 := rfl
          exact ⟨s3, z3, ns3, _, _, _, _, rfl, nz3, hz3, hp3, by omega⟩
    · rintro σ H1 ⟨s1, z1, ns1, v2, v3, v4, v5, rfl, nz1, hz1, hp1, len1⟩
      have lw := hw.length
      exact ⟨_, rfl, k _ z1 ns1 s1 nz1 hz1 hp1 (by omega)⟩
abbrev s_law_set : Stmt := top 27
theorem sc_law_set : FnScope ["_law_s"] ["_law_s"] (defScope s_law_set) := ⟨rfl, rfl, rfl, by decide +kernel, rfl, by decide +kernel, by decide +kernel⟩

theorem ok_set {f : Addr} {fd : FuncData} (F : Fun K "_law_set" "_law_set" s_law_set f fd) (T : TxtN K mg C) (X_num : NumD P w K mg base C fN) : FnOk P w K mg base CX0 5 f fd ["_law_s"] (spSet C) := by
  refine F.ok sc_law_set (fun vs H Q E h => ?_) (fun cdv A outer s H vs Q E hr h => ?_)
  · obtain ⟨a, r, rfl, _⟩ := h
    rfl
  · obtain ⟨a, r, rfl, ⟨ws, ha, hw⟩, hF, l5, k⟩ := h
    refine ⟨_, (pss_cons (ps_if (pt_cmpR op_lt (pe_callB call_len_seq (by rfl) T.len (by decide +kernel) (pa_cons (pv 0) pa_nil)) pe_int (nomark _)) (pss_one (ps_ret (pe_ifExp (pt_cmpR op_eq (pe_callB call_len_seq (by rfl) T.len (by decide +kernel) (pa_cons (pv 0) pa_nil)) pe_int (nomark _)) (pe_makeR0 X_num.m X_num.fn (hr.mono (by decide)) rfl T.mgC pass0) (pe_ifExp (pt_cmpR op_eq (pe_callB call_len_seq (by rfl) T.len (by decide +kernel) (pa_cons (pv 0) pa_nil)) pe_int (nomark _)) (StX.pe_makeR X_num.m X_num.fn (hr.mono (by decide)) rfl T.mgC pass0 (pa_cons (pe_ix ix_list (pv 0) pe_int (fun _ _ => rfl)) pa_nil)) (StX.pe_makeR X_num.m X_num.fn (hr.mono (by decide)) rfl T.mgC pass0 (pa_cons (pe_ix ix_list (pv 0) pe_int (fun _ _ => rfl)) (pa_cons (pe_ix ix_list (pv 0) pe_int (fun _ _ => rfl)) pa_nil))))))) pss_nil)
      (pss_cons (ps_if (pt_cmpR op_eq (pe_callB call_len_seq (by rfl) T.len (by decide +kernel) (pa_cons (pv 0) pa_nil)) pe_int (nomark _)) (pss_one (ps_ret (StX.pe_makeR X_num.m X_num.fn (hr.mono (by decide)) rfl T.mgC pass0 (pa_cons (pe_ix ix_list (pv 0) pe_int (fun _ _ => rfl)) (pa_cons (pe_ix ix_list (pv 0) pe_int (fun _ _ => rfl)) (pa_cons (pe_ix ix_list (pv 0) pe_int (fun _ _ => rfl)) pa_nil)))))) pss_nil)
      (pss_cons (ps_if (pt_cmpR op_eq (pe_callB call_len_seq (by rfl) T.len (by decide +kernel) (pa_cons (pv 0) pa_nil)) pe_int (nomark _)) (pss_one (ps_ret (StX.pe_makeR X_num.m X_num.fn (hr.mono (by decide)) rfl T.mgC pass0 (pa_cons (pe_ix ix_list (pv 0) pe_int (fun _ _ => rfl)) (pa_cons (pe_ix ix_list (pv 0) pe_int (fun _ _ => rfl)) (pa_cons (pe_ix ix_list (pv 0) pe_int (fun _ _ => rfl)) (pa_cons (pe_ix ix_list (pv 0) pe_int (fun _ _ => rfl)) pa_nil))))))) pss_nil)
      (pss_cons (ps_if (pt_cmpR op_eq (pe_callB call_len_seq (by rfl) T.len (by decide +kernel) (pa_cons (pv 0) pa_nil)) pe_int (nomark _)) (pss_one (ps_ret (StX.pe_makeR X_num.m X_num.fn (hr.mono (by decide)) rfl T.mgC pass0 (pa_cons (pe_ix ix_list (pv 0) pe_int (fun _ _ => rfl)) (pa_cons (pe_ix ix_list (pv 0) pe_int (fun _ _ => rfl)) (pa_cons (pe_ix ix_list (pv 0) pe_int (fun _ _ => rfl)) (pa_cons (pe_ix ix_list (pv 0) pe_int (fun _ _ => rfl)) (pa_cons (pe_ix ix_list (pv 0) pe_int (fun _ _ => rfl)) pa_nil)))))))) pss_nil)
      (pss_one (ps_ret (StX.pe_makeR X_num.m X_num.fn (hr.mono (by decide)) rfl T.mgC pass0 (pa_cons (pe_ix ix_list (pv 0) pe_int (fun _ _ => rfl)) (pa_cons (pe_ix ix_list (pv 0) pe_int (fun _ _ => rfl)) (pa_cons (pe_ix ix_list (pv 0) pe_int (fun _ _ => rfl)) (pa_cons (pe_ix ix_list (pv 0) pe_int (fun _ _ => rfl)) (pa_cons (pe_ix ix_list (pv 0) pe_int (fun _ _ => rfl)) (pa_cons (pe_ix ix_list (pv 0) pe_int (fun _ _ => rfl)) pa_nil))))))))))))), ?_⟩
    have lw := hw.length
    have mk : ∀ z dz, H z = none → H dz = none → dz ≠ z → star1 (spNI C) (.ref z :: ws) (upd (upd H dz (.own z)) z (.ins C dz [])) (fun v H3 => v = .non ∧ Q (.ref z) H3) E0 := fun z dz nz ndz nez => make_num nz ndz hw hF (by omega) fun H' s2 hN => k H' z s2 nz hN
    have yes : ∀ {x : V} {A' B' : Prop}, A' → (if decide (x = x) = true then A' else B') := fun {x A' B'} h => by
      rw [if_pos (decide_eq_true rfl)]
      exact h
    match ws, lw with
    | [], _ =>
      refine ⟨_, rfl, a, _, rfl, .inl (SqL.of ha), _, _, rfl, rfl, _, rfl, ite2 (fun _ => ?_) (fun e => absurd rfl e)⟩
      refine ⟨_, rfl, a, _, rfl, .inl (SqL.of ha), rfl, _, rfl, ite2 (fun _ => ?_) (fun e => absurd rfl e)⟩
      exact mk
    | [w0], _ =>
      refine ⟨_, rfl, a, _, rfl, .inl (SqL.of ha), _, _, rfl, rfl, _, rfl, ite2 (fun _ => ?_) (fun e => absurd rfl e)⟩
      refine ⟨_, rfl, a, _, rfl, .inl (SqL.of ha), rfl, _, rfl, ite2 (fun e => absurd (V.int.inj (of_decide_eq_true e)) (fun z => by simp only [List.length_cons, List.length_nil] at z; omega)) (fun _ => ?_)⟩
      refine ⟨_, rfl, a, _, rfl, .inl (SqL.of ha), rfl, _, rfl, ite2 (fun _ => ?_) (fun e => absurd rfl e)⟩
      exact ⟨_, rfl, a, _, _, _, rfl, rfl, SqL.of ha, atI_nat (j := 0) rfl, mk⟩
    | [w0, w1], _ =>
      refine ⟨_, rfl, a, _, rfl, .inl (SqL.of ha), _, _, rfl, rfl, _, rfl, ite2 (fun _ => ?_) (fun e => absurd rfl e)⟩
      refine ⟨_, rfl, a, _, rfl, .inl (SqL.of ha), rfl, _, rfl, ite2 (fun e => absurd (V.int.inj (of_decide_eq_true e)) (fun z => by simp only [List.length_cons, List.length_nil] at z; omega)) (fun _ => ?_)⟩
      refine ⟨_, rfl, a, _, rfl, .inl (SqL.of ha), rfl, _, rfl, ite2 (fun e => absurd (V.int.inj (of_decide_eq_true e)) (fun z => by simp only [List.length_cons, List.length_nil] at z; omega)) (fun _ => ?_)⟩
      exact ⟨_, rfl, a, _, _, _, rfl, rfl, SqL.of ha, atI_nat (j := 0) rfl, _, rfl, a, _, _, _, rfl, rfl, SqL.of ha, atI_nat (j := 1) rfl, mk⟩
    | [w0, w1, w2], _ =>
      refine ⟨_, rfl, a, _, rfl, .inl (SqL.of ha), _, _, rfl, rfl, _, rfl, ite2 (fun e => absurd (of_decide_eq_true e) (fun z => by simp only [List.length_cons, List.length_nil] at z; omega)) (fun _ => ?_)⟩
      refine ⟨_, rfl, a, _, rfl, .inl (SqL.of ha), rfl, _, rfl, ite2 (fun _ => ?_) (fun e => absurd rfl e)⟩
      exact ⟨_, rfl, a, _, _, _, rfl, rfl, SqL.of ha, atI_nat (j := 0) rfl, _, rfl, a, _, _, _, rfl, rfl, SqL.of ha, atI_nat (j := 1) rfl, _, rfl, a, _, _, _, rfl, rfl, SqL.of ha, atI_nat (j := 2) rfl, mk⟩
    | [w0, w1, w2, w3], _ =>
      refine ⟨_, rfl, a, _, rfl, .inl (SqL.of ha), _, _, rfl, rfl, _, rfl, ite2 (fun e => absurd (of_decide_eq_true e) (fun z => by simp only [List.length_cons, List.length_nil] at z; omega)) (fun _ => ?_)⟩
      refine ⟨_, rfl, a, _, rfl, .inl (SqL.of ha), rfl, _, rfl, ite2 (fun e => absurd (V.int.inj (of_decide_eq_true e)) (fun z => by simp only [List.length_cons, List.length_nil] at z; omega)) (fun _ => ?_)⟩
      refine ⟨_, rfl, a, _, rfl, .inl (SqL.of ha), rfl, _, rfl, ite2 (fun _ => ?_) (fun e => absurd rfl e)⟩
      exact ⟨_, rfl, a, _, _, _, rfl, rfl, SqL.of ha, atI_nat (j := 0) rfl, _, rfl, a, _, _, _, rfl, rfl, SqL.of ha, atI_nat (j := 1) rfl, _, rfl, a, _, _, _, rfl, rfl, SqL.of ha, atI_nat (j := 2) rfl, _, rfl, a, _, _, _, rfl, rfl, SqL.of ha, atI_nat (j := 3) rfl, mk⟩
    | [w0, w1, w2, w3, w4], _ =>
      refine ⟨_, rfl, a, _, rfl, .inl (SqL.of ha), _, _, rfl, rfl, _, rfl, ite2 (fun e => absurd (of_decide_eq_true e) (fun z => by simp only [List.length_cons, List.length_nil] at z; omega)) (fun _ => ?_)⟩
      refine ⟨_, rfl, a, _, rfl, .inl (SqL.of ha), rfl, _, rfl, ite2 (fun e => absurd (V.int.inj (of_decide_eq_true e)) (fun z => by simp only [List.length_cons, List.length_nil] at z; omega)) (fun _ => ?_)⟩
      refine ⟨_, rfl, a, _, rfl, .inl (SqL.of ha), rfl, _, rfl, ite2 (fun e => absurd (V.int.inj (of_decide_eq_true e)) (fun z => by simp only [List.length_cons, List.length_nil] at z; omega)) (fun _ => ?_)⟩
      refine ⟨_, rfl, a, _, rfl, .inl (SqL.of ha), rfl, _, rfl, ite2 (fun _ => ?_) (fun e => absurd rfl e)⟩
      exact ⟨_, rfl, a, _, _, _, rfl, rfl, SqL.of ha, atI_nat (j := 0) rfl, _, rfl, a, _, _, _, rfl, rfl, SqL.of ha, atI_nat (j := 1) rfl, _, rfl, a, _, _, _, rfl, rfl, SqL.of ha, atI_nat (j := 2) rfl, _, rfl, a, _, _, _, rfl, rfl, SqL.of ha, atI_nat (j := 3) rfl, _, rfl, a, _, _, _, rfl, rfl, SqL.of ha, atI_nat (j := 4) rfl, mk⟩
    | w0 :: w1 :: w2 :: w3 :: w4 :: w5 :: ws, h =>
      simp only [List.length_cons] at h
      omega
end
end RL

set_option maxHeartbeats 2000000
namespace RL
open PySem L2 PySem.Spec PyProof.Rows GenW
structure TxtO (K : PySem.W.Frag) (mg : Str → Option Value) (tC : Tok) (C : Addr) : Prop extends TxtN K mg C where
  mgCo : mg "MOST_SECTIONS" = some (.int 100 tC)
/-! ### texts, of the empty row too -/
theorem join_len (y : Str) : ∀ l : List Str, (Str.join y l).length ≤ (l.map (·.length)).sum + l.length * y.length
  | [] => by
    show (Str.join y []).length ≤ _
    exact Nat.zero_le _
  | [x] => by
    show x.length ≤ _
    simp
  | x :: z :: l => by
    have ih := join_len y (z :: l)
    show (x ++ y ++ Str.join y (z :: l)).length ≤ _
    rw [Str.length_append, Str.length_append]
    simp only [List.map_cons, List.sum_cons, List.length_cons] at ih ⊢
    have : (l.length + 1 + 1) * y.length = (l.length + 1) * y.length + y.length := Nat.succ_mul _ _
    omega
def CpsOk (x : Str) : Prop := ∀ c ∈ x.cps.toList, c < 16 ^ 8
theorem CpsOk.app {x y : Str} (h : CpsOk x) (k : CpsOk y) : CpsOk (x ++ y) := fun c hc => by
  have e : (x ++ y).cps.toList = x.cps.toList ++ y.cps.toList := by
    show (x.cps ++ y.cps).toList = _
    rw [Array.toList_append]
  rw [e] at hc
  exact (List.mem_append.mp hc).elim (h c) (k c)
theorem cps_join {y : Str} (hy : CpsOk y) : ∀ {l : List Str}, (∀ x ∈ l, CpsOk x) → CpsOk (Str.join y l)
  | [], _ => fun c hc => absurd (show c ∈ ([] : List Nat) from hc) (by simp)
  | [x], h => h x List.mem_cons_self
  | x :: z :: l, h => by
    show CpsOk (x ++ y ++ Str.join y (z :: l))
    exact ((h x List.mem_cons_self).app hy).app (cps_join hy fun a ha => h a (List.mem_cons_of_mem _ ha))
def ShB (s : Sh) : Prop := Sm 107 s.1 ∧ ∀ l, s.2 = some l → Sm 107 l
theorem ShB.sm {s : Sh} (h : ShB s) : ShSm s := ⟨h.1.mono (by decide), fun l e => (h.2 l e).mono (by decide)⟩
theorem bnd_b {r : List Sh} (hF : Form 0 r) (h : Bnd r) : ∀ s ∈ r, ShB s := fun s hs => by
  have k : ∀ z : Int, 0 ≤ z → z ≤ 100000000000000000000000000000000 → Sm 107 z := fun z a b => by
    unfold Sm
    have e : (2 : Nat) ^ 107 = 162259276829213363391578010288128 := by decide
    omega
  obtain ⟨a, b, c⟩ := h s hs
  obtain ⟨_, d⟩ := form_in hF (by decide) s hs
  refine ⟨k _ a b, fun l e => k _ ?_ (c l e)⟩
  have := d l e
  omega
theorem ts_107 {i : Int} (h : Sm 107 i) : OkT 108 (ts i) := (OkT.of (toString i)).mono (int_text_length_le (by decide) (log_sm (by decide) h))
theorem shT_107 {s : Sh} (h : ShB s) : OkT 220 (shT s) := by
  obtain ⟨h1, h2⟩ := h
  unfold shT
  split
  · exact ((OkT.of "from ").app (ts_107 h1)).mono (by decide)
  · next l e =>
    split
    · exact (ts_107 h1).mono (by decide)
    · exact (((ts_107 h1).app (OkT.of " to ")).app (ts_107 (h2 l e))).mono (by decide)
def wT (r : List Sh) : Str := match r with
  | [] => Str.ofString "none"
  | _ :: _ => rowT r
def rT (r : List Sh) : Str := Str.ofString "Numbers(" ++ wT r ++ Str.ofString ")"
theorem sum_lenB {r : List Sh} (h : ∀ s ∈ r, ShB s) : ((r.map shT).map (·.length)).sum ≤ 220 * r.length := by
  induction r with
  | nil => exact Nat.le_refl _
  | cons p r ih =>
    have h1 := ih fun s hs => h s (List.mem_cons_of_mem _ hs)
    have h2 := (shT_107 (h p List.mem_cons_self)).len
    simp only [List.map_cons, List.sum_cons, List.length_cons]
    omega
theorem rowT_ok {r : List Sh} (h : ∀ s ∈ r, ShB s) (l5 : r.length ≤ 5) : OkT 1110 (rowT r) := by
  unfold rowT
  rw [TL.join_eq]
  refine ⟨?_, cps_join (OkT.of ", ").cps fun x hx => ?_⟩
  · have h1 := join_len (Str.ofString ", ") (r.map shT)
    have h2 := sum_lenB h
    have h3 : (Str.ofString ", ").length = 2 := by decide +kernel
    rw [h3, List.length_map] at h1
    omega
  · obtain ⟨s, hs, rfl⟩ := List.mem_map.mp hx
    exact (shT_107 (h s hs)).cps
theorem wT_ok {r : List Sh} (h : ∀ s ∈ r, ShB s) (l5 : r.length ≤ 5) : OkT 1110 (wT r) := by
  cases r with
  | nil => exact (OkT.of "none").mono (by decide)
  | cons s r => exact rowT_ok h l5
theorem rT_ok {r : List Sh} (h : ∀ s ∈ r, ShB s) (l5 : r.length ≤ 5) : OkT 1120 (rT r) := (((OkT.of "Numbers(").app (wT_ok h l5)).app (OkT.of ")")).mono (by decide)
/-! ### the first numbers of a row -/
def cntS (s : Sh) (m : Nat) : Nat := match s.2 with
  | none => m
  | some l => min m (l + 1 - s.1).toNat
def takeS (s : Sh) (m : Nat) : List Int := (List.range (cntS s m)).map fun i : Nat => s.1 + (i : Int)
def firstF : List Sh → Nat → List Int
  | [], _ => []
  | s :: r, m => takeS s m ++ firstF r (m - cntS s m)
theorem takeS_len (s : Sh) (m : Nat) : (takeS s m).length = cntS s m := by
  unfold takeS
  rw [List.length_map, List.length_range]
theorem cntS_le (s : Sh) (m : Nat) : cntS s m ≤ m := by
  unfold cntS
  split
  · exact Nat.le_refl _
  · exact Nat.min_le_left _ _
theorem firstF_le : ∀ (r : List Sh) (m : Nat), (firstF r m).length ≤ m
  | [], _ => Nat.zero_le _
  | s :: r, m => by
    have h1 := cntS_le s m
    have h2 := firstF_le r (m - cntS s m)
    show (takeS s m ++ firstF r (m - cntS s m)).length ≤ m
    rw [List.length_append, takeS_len]
    omega
theorem firstF_snoc : ∀ (r : List Sh) (s : Sh) (m : Nat), firstF (r ++ [s]) m = firstF r m ++ takeS s (m - (firstF r m).length)
  | [], s, m => by
    show takeS s m ++ [] = [] ++ takeS s (m - 0)
    simp
  | t :: r, s, m => by
    have ih := firstF_snoc r s (m - cntS t m)
    show takeS t m ++ firstF (r ++ [s]) (m - cntS t m) = (takeS t m ++ firstF r (m - cntS t m)) ++ takeS s (m - (takeS t m ++ firstF r (m - cntS t m)).length)
    rw [ih, List.length_append, takeS_len, List.append_assoc, Nat.sub_sub]
theorem takeS_part {s : Sh} : ∀ i : Nat, ((List.range (i + 1)).map fun j : Nat => s.1 + (j : Int)) = ((List.range i).map fun j : Nat => s.1 + (j : Int)) ++ [s.1 + (i : Int)] := fun i => by
  rw [List.range_succ, List.map_append]
  rfl
/-! ### promises -/
def spIntG (K : PySem.W.Frag) : Sp := fun vs H Q _ => ∃ (v : V) (d : PyData), vs = [v] ∧ Dq K H v d ∧ Q (.bl (isIntD d)) H
def spWithinI : Sp := fun vs H Q _ => ∃ (i lo hi : Int), vs = [.int i, .int lo, .int hi] ∧ lo ≤ i ∧ i ≤ hi ∧ Q (.bl true) H
def spCount : Sp := fun vs H Q _ => ∃ (i : Int), vs = [.int i] ∧ 0 ≤ i ∧ i ≤ 100 ∧ Q (.bl true) H
def spRowW : Sp := fun vs H Q _ => ∃ (a : Addr) (r : List Sh), vs = [.ref a] ∧ ShT H a r ∧ (∀ s ∈ r, ShSm s) ∧ r.length ≤ 100 ∧ ∀ H', Same H H' → Q (.str (wT r)) H'
def spTx (C : Addr) (g : List Sh → Str) : Sp := fun vs H Q _ => ∃ (x : Addr) (r : List Sh), vs = [.ref x] ∧ NumAt C H x r ∧ (∀ s ∈ r, ShB s) ∧ r.length ≤ 5 ∧ ∀ H', Same H H' → Q (.str (g r)) H'
def contD (r : List Sh) : PyData → Bool
  | .int n => heldb r n
  | _ => false
def spContD (K : PySem.W.Frag) (C : Addr) : Sp := fun vs H Q _ => ∃ (x : Addr) (v : V) (d : PyData) (r : List Sh), vs = [.ref x, v] ∧ NumAt C H x r ∧ Dq K H v d ∧ r.length ≤ 1000 ∧ ∀ H', Same H H' → Q (.bl (contD r d)) H'
def spEqA (K : PySem.W.Frag) (C : Addr) : Sp := fun vs H Q _ => ∃ (x dx : Addr) (fs : List (Str × V)) (v : V) (t : Value), vs = [.ref x, v] ∧ H x = some (.ins C dx fs) ∧ TyX K H v t ∧ PySem.W.kitOne K t (.ref C) = some false ∧ Q (.bl false) H
def smV : List Sh → V
  | [] => .non
  | s :: _ => .int s.1
def smD : List Sh → PyData
  | [] => .none
  | s :: _ => .int s.1
def enB : List Sh → Bool
  | [] => false
  | [s] => s.2.isNone
  | _ :: r => enB r
theorem enB_snoc : ∀ (r : List Sh) (s : Sh), enB (r ++ [s]) = s.2.isNone
  | [], s => rfl
  | [t], s => rfl
  | t :: u :: r, s => enB_snoc (u :: r) s
def spSm (C : Addr) : Sp := fun vs H Q _ => ∃ (x : Addr) (r : List Sh), vs = [.ref x] ∧ NumAt C H x r ∧ Q (smV r) H
def spEn (C : Addr) : Sp := fun vs H Q _ => ∃ (x : Addr) (r : List Sh), vs = [.ref x] ∧ NumAt C H x r ∧ Q (.bl (enB r)) H
def spBo (C : Addr) : Sp := fun vs H Q _ => ∃ (x : Addr) (r : List Sh), vs = [.ref x] ∧ NumAt C H x r ∧ Q (.bl (!r.isEmpty)) H
def spAsc (C : Addr) : SpG := fun vs H Q _ => ∃ (x : Addr) (n : Nat) (r : List Sh), vs = [.ref x, .int (n : Int)] ∧ NumAt C H x r ∧ Form 0 r ∧ n ≤ 100 ∧ ∀ H', Same H H' → Q ((firstF r n).map V.int) H'
def spFirst : Sp := fun vs H Q _ => ∃ (a : Addr) (n : Nat) (r : List Sh), vs = [.ref a, .int (n : Int)] ∧ ShL H a r ∧ Form 0 r ∧ n ≤ 100 ∧ ∀ H' z, Same H H' → H z = none → H' z = some (.lst ((firstF r n).map V.int)) → Q (.ref z) H'
def spWords : Sp := fun vs H Q _ => ∃ (a : Addr) (r : List Sh), vs = [.ref a] ∧ ShL H a r ∧ (∀ s ∈ r, ShB s) ∧ r.length ≤ 5 ∧ ∀ H', Same H H' → Q (.str (wT r)) H'
structure OwP (P : Program) (w : World) (K : PySem.W.Frag) (mg : Str → Option Value) (base : Heap) (C p g : Addr) (fd : FuncData) (nm : Str) (sp : Sp) : Prop where
  pr : PropOf K C nm p g
  ok : FnOk P w K mg base CX0 1 g fd ["self"] sp
  b : Binds K fd ["self"] []
structure OwM (P : Program) (w : World) (K : PySem.W.Frag) (mg : Str → Option Value) (base : Heap) (C g : Addr) (fd : FuncData) (nm : Str) (k : Nat) (ps : List Str) (sp : Sp) : Prop where
  at_ : PySem.W.findIn K (.ref C) nm = some (some (.ref g))
  fn : PySem.W.isFn K (.ref g) = true
  ok : FnOk P w K mg base CX0 k g fd ps sp
  b : Binds K fd ps []
structure OwEA (P : Program) (w : World) (K : PySem.W.Frag) (mg : Str → Option Value) (base : Heap) (C g : Addr) (fd : FuncData) : Prop where
  e_at : PySem.W.findIn K (.ref C) "__eq__" = some (some (.ref g))
  e_fn : PySem.W.isFn K (.ref g) = true
  ok : FnOk P w K mg base CX0 1 g fd ["self", "other"] (spEqA K C)
  b : Binds K fd ["self", "other"] []
  n_at : PySem.W.findIn K (.ref C) "__ne__" = some (some (.builtin "object.__ne__"))
  n_sub : PySem.W.subIn K (.ref C) (.type "object") = some true
  s1 : PySem.W.subIn K (.ref C) (.type "NoneType") = some false
  s2 : PySem.W.subIn K (.ref C) (.type "int") = some false
  kN : PySem.W.kitOne K (.type "NoneType") (.ref C) = some false
  kI : PySem.W.kitOne K (.type "int") (.ref C) = some false
  kS : PySem.W.kitOne K (.type "str") (.ref C) = some false
  kT : PySem.W.kitOne K (.type "tuple") (.ref C) = some false
  nS : PySem.W.notFirst K C (.type "str") = true
  nT : PySem.W.notFirst K C (.type "tuple") = true
section
variable {P : Program} {w : World} {K : PySem.W.Frag} {mg : Str → Option Value} {base : Heap} {C fN : Addr} {tC : Tok}
theorem ok_isintG {f : Addr} {fd : FuncData} (F : Fun K "is_integer" "is_integer" s_is_integer f fd) (T : Txt K mg) : FnOk P w K mg base CX0 1 f fd ["value"] (spIntG K) := by
  refine F.ok sc_is_integer (fun vs H Q E h => ?_) (fun cdv A outer s H vs Q E hr h => ?_)
  · obtain ⟨v, d, rfl, _⟩ := h
    rfl
  · obtain ⟨v, d, rfl, hd, k⟩ := h
    refine ⟨_, (pss_one (ps_ret (pe_and (pe_callB call_isi (by rfl) T.isinstance (by decide +kernel) (pa_cons (pv 0) (pa_cons (pe_bltn (v := .ty "int") (by rfl) T.int_ (by decide +kernel) rfl) pa_nil))) (pe_one (pe_not (pe_callB call_isi (by rfl) T.isinstance (by decide +kernel) (pa_cons (pv 0) (pa_cons (pe_bltn (v := .ty "bool") (by rfl) T.bool_ (by decide +kernel) rfl) pa_nil)))))))), ?_⟩
    refine ⟨_, rfl, _, _, _, _, intOrBool d, rfl, .ty _, ty_dq hd, kit_int d, _, rfl, ?_⟩
    cases h1 : intOrBool d with
    | true =>
      refine iteT ⟨_, rfl, _, _, _, _, isBoolD d, rfl, .ty _, ty_dq hd, kit_bool d, _, rfl, ?_⟩
      have e : isIntD d = !isBoolD d := by cases d <;> first | rfl | exact absurd h1 (by simp [intOrBool])
      rw [← e]
      exact k
    | false =>
      have e : isIntD d = false := by cases d <;> first | rfl | exact absurd h1 (by simp [intOrBool])
      rw [e] at k
      exact iteF k
abbrev s_is_integer_within : Stmt := top 3
theorem sc_is_integer_within : FnScope ["value", "least", "most"] ["value", "least", "most"] (defScope s_is_integer_within) := ⟨rfl, rfl, rfl, by decide +kernel, rfl, by decide +kernel, by decide +kernel⟩

theorem ok_withinI {f : Addr} {fd : FuncData} (F : Fun K "is_integer_within" "is_integer_within" s_is_integer_within f fd) (D_is_integer : Df P w K mg base 1 "is_integer" ["value"] spIsInt) : FnOk P w K mg base CX0 2 f fd ["value", "least", "most"] spWithinI := by
  refine F.ok sc_is_integer_within (fun vs H Q E h => ?_) (fun cdv A outer s H vs Q E hr h => ?_)
  · obtain ⟨i, lo, hi, rfl, _⟩ := h
    rfl
  · obtain ⟨i, lo, hi, rfl, h1, h2, k⟩ := h
    refine ⟨_, (pss_one (ps_ret (pe_and (pe_df D_is_integer (hr.mono (by decide)) (by rfl) (pa_cons (pv 0) pa_nil)) (pe_one (pe_chain op_le op_le (pv 1) (pv 0) (pv 2)))))), ?_⟩
    refine ⟨_, rfl, i, rfl, true, rfl, iteT ⟨_, rfl, _, rfl, _, _, rfl, rfl, _, rfl, ite2 (fun e1 => ?_) (fun e1 => ?_)⟩⟩
    · refine ⟨_, rfl, _, _, rfl, rfl, ?_⟩
      show Q (.bl (decide (i ≤ hi))) H
      rw [decide_eq_true h2]
      exact k
    · exact absurd (decide_eq_true h1) e1
abbrev s_is_count : Stmt := top 4
theorem sc_is_count : FnScope ["value"] ["value"] (defScope s_is_count) := ⟨rfl, rfl, rfl, by decide +kernel, rfl, by decide +kernel, by decide +kernel⟩

theorem ok_countI {f : Addr} {fd : FuncData} (F : Fun K "is_count" "is_count" s_is_count f fd) (T : TxtO K mg tC C) (D_is_integer_within : Df P w K mg base 2 "is_integer_within" ["value", "least", "most"] spWithinI) : FnOk P w K mg base CX0 3 f fd ["value"] spCount := by
  refine F.ok sc_is_count (fun vs H Q E h => ?_) (fun cdv A outer s H vs Q E hr h => ?_)
  · obtain ⟨i, rfl, _⟩ := h
    rfl
  · obtain ⟨i, rfl, h1, h2, k⟩ := h
    refine ⟨_, (pss_one (ps_ret (pe_df D_is_integer_within (hr.mono (by decide)) (by rfl) (pa_cons (pv 0) (pa_cons pe_int (pa_cons (pe_glob (v := .int 100) rfl T.mgCo ⟨_, rfl⟩) pa_nil)))))), ?_⟩
    exact ⟨_, rfl, i, 0, 100, rfl, h1, h2, k⟩
abbrev s_stretches_text : Stmt := top 17
theorem sc_stretches_text : FnScope ["row", "first", "last"] ["row"] (defScope s_stretches_text) := ⟨rfl, rfl, rfl, by decide +kernel, rfl, by decide +kernel, by decide +kernel⟩

theorem ok_rowW {f : Addr} {fd : FuncData} (F : Fun K "stretches_text" "stretches_text" s_stretches_text f fd) (T : Txt K mg) (D_stretch_text : Df P w K mg base 1 "stretch_text" ["first", "last"] spShT) : FnOk P w K mg base CX0 2 f fd ["row"] spRowW := by
  refine F.ok sc_stretches_text (fun vs H Q E h => ?_) (fun cdv A outer s H vs Q E hr h => ?_)
  · obtain ⟨a, r, rfl, _⟩ := h
    rfl
  · obtain ⟨a, r, rfl, ⟨ws, ha, hw⟩, hs, l100, k⟩ := h
    refine ⟨_, (pss_cons (ps_if (pt_not (pt_truth (pv 0) (fun _ => rfl))) (pss_one (ps_ret pe_str)) pss_nil)
      (pss_one (ps_ret (pe_join pe_str (pe_lc (own := [("first", 1), ("last", 2)]) (g := gTup K 2 (gCons (gName 1) (gCons (gName 2) gNil))) (tt := tYes) rfl sc_stretches_text.nd (pi_tup (pv 0)) (blkOk_by (N := ["row", "first", "last"]) (sc := defScope s_stretches_text) (by decide +kernel)) (fun _ _ _ _ _ => pg_tup rfl (pgs_cons (pg_name (i := 1) sc_stretches_text.nd rfl (Or.inl rfl)) (pgs_cons (pg_name (i := 2) sc_stretches_text.nd rfl (Or.inl rfl)) pgs_nil))) (fun _ _ _ _ _ => pts_nil) (fun _ _ _ _ _ => (pe_df D_stretch_text (hr.mono (by decide)) (by rfl) (pa_cons (pv 1) (pa_cons (pv 2) pa_nil))))))))), ?_⟩
    have lw := hw.length
    cases r with
    | nil =>
      have : ws = [] := List.eq_nil_of_length_eq_zero lw
      subst this
      exact ⟨_, rfl, false, .inr (.inl ⟨[], SqT.of ha, rfl⟩), iteT (k _ (Same.refl _))⟩
    | cons s0 r0 =>
    have k : ∀ H', Same H H' → Q (.str (rowT (s0 :: r0))) H' := k
    have l1 : 1 ≤ (s0 :: r0).length := by simp
    generalize s0 :: r0 = r at *
    have ne : (!ws.isEmpty) = true := by
      cases ws with
      | nil =>
        have e0 : ([] : List V).length = 0 := rfl
        omega
      | cons v ws => rfl
    refine ⟨_, rfl, true, .inr (.inl ⟨ws, SqT.of ha, ne.symm⟩), iteF ?_⟩
    refine ⟨⟨_, rfl⟩, _, rfl, a, rfl, ⟨_, SqT.of ha⟩, fun D hD => ?_⟩
    refine lc_tup (K := K) (a := a) (xs := ws) (fun i H' => But D H H' ∧ H' D = some (.lst (((r.take i).map shT).map V.str))) ⟨But.upd, upd_same⟩ (fun i H' _ h => SqT.of (h.1 _ _ (ne_of_none ha hD) ha)) ?_ ?_
    · rintro i y H1 hi ⟨bD, hDi⟩
      obtain ⟨pc, hpc, t, rfl, ht⟩ := hw.at_ hi
      have ht1 := bD _ _ (ne_of_none ht hD) ht
      refine ⟨t, _, rfl, SqT.of ht1, rfl, _, _, rfl, _, _, rfl, rfl, rfl, ?_⟩
      unfold tYes
      refine iteT ?_
      refine ⟨_, rfl, _, rfl, pc, rfl, hs pc (List.mem_of_getElem? hpc), _, hDi, ?_, ?_, ?_⟩
      · rw [List.length_map, List.length_map, List.length_take]
        exact small1000 (by omega)
      · intro q o nq e
        rw [upd_ne nq]
        exact bD _ _ nq e
      · rw [upd_same, List.take_succ, hpc]
        simp only [Option.toList, List.map_append, List.map_cons, List.map_nil]
    · rintro H1 ⟨bD, hDn⟩
      rw [lw, List.take_length] at hDn
      refine ⟨_, D, r.map shT, rfl, rfl, .inl (SqL.of hDn), ?_, ?_⟩
      · have h2 := sum_lenS hs
        have h3 : (Str.ofString ", ").length = 2 := by decide +kernel
        rw [List.length_map]
        show _ + r.length * (Str.ofString ", ").length ≤ 16777216
        rw [h3]
        omega
      · exact k _ fun q o e => bD _ _ (ne_of_none e hD) e
abbrev s_Numbers_str : Stmt := inClass (top 10) 12
theorem sc_Numbers_str : FnScope ["self"] ["self"] (defScope s_Numbers_str) := ⟨rfl, rfl, rfl, by decide +kernel, rfl, by decide +kernel, by decide +kernel⟩

theorem ok_nstrW {f : Addr} {fd : FuncData} (F : Fun K "__str__" "Numbers.__str__" s_Numbers_str f fd) (T : TxtO K mg tC C) (D_stretches_text : Df P w K mg base 2 "stretches_text" ["row"] spRowW) : FnOk P w K mg base CX0 3 f fd ["self"] (spTx C wT) := by
  refine F.ok sc_Numbers_str (fun vs H Q E h => ?_) (fun cdv A outer s H vs Q E hr h => ?_)
  · obtain ⟨x, r, rfl, _⟩ := h
    rfl
  · obtain ⟨x, r, rfl, ⟨dx, q, hx, hq⟩, hs, l5, k⟩ := h
    refine ⟨_, (pss_one (ps_ret (pe_callTy SkE.call_str_str (by rfl) T.str_ (by decide +kernel) (pa_cons (pe_df D_stretches_text (hr.mono (by decide)) (by rfl) (pa_cons (pe_fld (pv 0) rfl) pa_nil)) pa_nil)))), ?_⟩
    exact ⟨_, rfl, x, C, dx, _, _, rfl, hx, T.cl, T.nHeld, lkH _, q, r, rfl, hq, fun s h => (hs s h).sm, by omega, fun H' s' => ⟨_, rfl, k _ s'⟩⟩
abbrev s_Numbers_repr : Stmt := inClass (top 10) 13
theorem sc_Numbers_repr : FnScope ["self"] ["self"] (defScope s_Numbers_repr) := ⟨rfl, rfl, rfl, by decide +kernel, rfl, by decide +kernel, by decide +kernel⟩

theorem ok_nrepW {f : Addr} {fd : FuncData} (F : Fun K "__repr__" "Numbers.__repr__" s_Numbers_repr f fd) (T : TxtO K mg tC C) (D_stretches_text : Df P w K mg base 2 "stretches_text" ["row"] spRowW) : FnOk P w K mg base CX0 3 f fd ["self"] (spTx C rT) := by
  refine F.ok sc_Numbers_repr (fun vs H Q E h => ?_) (fun cdv A outer s H vs Q E hr h => ?_)
  · obtain ⟨x, r, rfl, _⟩ := h
    rfl
  · obtain ⟨x, r, rfl, ⟨dx, q, hx, hq⟩, hs, l5, k⟩ := h
    refine ⟨_, (pss_one (ps_ret (pe_joined (PJ.cons pe_str (PJ.cons (pe_fmt (pe_df D_stretches_text (hr.mono (by decide)) (by rfl) (pa_cons (pe_fld (pv 0) rfl) pa_nil))) (PJ.cons pe_str PJ.nil)))))), ?_⟩
    have o1 : OkT 8 (Str.empty ++ Str.ofString "Numbers(") := by
      rw [Str.empty_append]
      exact OkT.of "Numbers("
    have ot := wT_ok hs l5
    have o2 := o1.app ot
    have o3 := o2.app (OkT.of ")")
    refine ⟨_, rfl, o1.fits, _, rfl, x, C, dx, _, _, rfl, hx, T.cl, T.nHeld, lkH _, q, r, rfl, hq, fun s h => (hs s h).sm, by omega, fun H' s' => .inl ⟨_, rfl, ot.fits, _, rfl, o2.fits, _, rfl, o3.fits, ?_⟩⟩
    show Q (.str (((Str.empty ++ Str.ofString "Numbers(") ++ wT r) ++ Str.ofString ")")) H'
    rw [Str.empty_append]
    exact k _ s'
abbrev s_Numbers_smallest : Stmt := inClass (top 10) 2
theorem sc_Numbers_smallest : FnScope ["self"] ["self"] (defScope s_Numbers_smallest) := ⟨rfl, rfl, rfl, by decide +kernel, rfl, by decide +kernel, by decide +kernel⟩

theorem ok_small {f : Addr} {fd : FuncData} (F : Fun K "smallest" "Numbers.smallest" s_Numbers_smallest f fd) (T : TxtO K mg tC C) : FnOk P w K mg base CX0 1 f fd ["self"] (spSm C) := by
  refine F.ok sc_Numbers_smallest (fun vs H Q E h => ?_) (fun cdv A outer s H vs Q E hr h => ?_)
  · obtain ⟨x, r, rfl, _⟩ := h
    rfl
  · obtain ⟨x, r, rfl, ⟨dx, q, hx, ws, hq, hw⟩, k⟩ := h
    refine ⟨_, (pss_cons (ps_if (pt_not (pt_truth (pe_fld (pv 0) rfl) (fun _ => rfl))) (pss_one (ps_ret pe_non)) pss_nil)
      (pss_one (ps_ret (pe_ix ix_tup (pe_ix ix_tup (pe_fld (pv 0) rfl) pe_int (fun _ _ => rfl)) pe_int (fun _ _ => rfl))))), ?_⟩
    cases hw with
    | nil => exact ⟨_, rfl, x, C, dx, _, _, rfl, hx, T.cl, T.nHeld, lkH _, false, .inr (.inl ⟨[], SqT.of hq, rfl⟩), iteT k⟩
    | cons h0 hr' =>
      obtain ⟨t, rfl, ht⟩ := h0
      refine ⟨_, rfl, x, C, dx, _, _, rfl, hx, T.cl, T.nHeld, lkH _, true, .inr (.inl ⟨_, SqT.of hq, rfl⟩), iteF ?_⟩
      exact ⟨_, rfl, x, C, dx, _, _, rfl, hx, T.cl, T.nHeld, lkH _, q, _, _, _, rfl, rfl, SqT.of hq, atI_nat (j := 0) rfl, t, _, _, _, rfl, rfl, SqT.of ht, atI_nat (j := 0) rfl, k⟩
abbrev s_Numbers_endless : Stmt := inClass (top 10) 3
theorem sc_Numbers_endless : FnScope ["self"] ["self"] (defScope s_Numbers_endless) := ⟨rfl, rfl, rfl, by decide +kernel, rfl, by decide +kernel, by decide +kernel⟩

theorem ok_endl {f : Addr} {fd : FuncData} (F : Fun K "endless" "Numbers.endless" s_Numbers_endless f fd) (T : TxtO K mg tC C) : FnOk P w K mg base CX0 1 f fd ["self"] (spEn C) := by
  refine F.ok sc_Numbers_endless (fun vs H Q E h => ?_) (fun cdv A outer s H vs Q E hr h => ?_)
  · obtain ⟨x, r, rfl, _⟩ := h
    rfl
  · obtain ⟨x, r, rfl, ⟨dx, q, hx, ws, hq, hw⟩, k⟩ := h
    refine ⟨_, (pss_cons (ps_if (pt_not (pt_truth (pe_fld (pv 0) rfl) (fun _ => rfl))) (pss_one (ps_ret pe_bl)) pss_nil)
      (pss_one (ps_ret (pe_cmpR op_isN (pe_ix ix_tup (pe_ix ix_tup (pe_fld (pv 0) rfl) (pe_un un_neg pe_int) (fun _ _ => rfl)) pe_int (fun _ _ => rfl)) pe_non (nomark _))))), ?_⟩
    rcases List.eq_nil_or_concat r with rfl | ⟨r0, s, rfl⟩
    · cases hw
      exact ⟨_, rfl, x, C, dx, _, _, rfl, hx, T.cl, T.nHeld, lkH _, false, .inr (.inl ⟨[], SqT.of hq, rfl⟩), iteT k⟩
    · rw [List.concat_eq_append] at *
      obtain ⟨ws0, v', rfl, hw0, t, rfl, ht⟩ := hw.snoc_inv
      have ne : (!(ws0 ++ [V.ref t]).isEmpty) = true := by simp
      refine ⟨_, rfl, x, C, dx, _, _, rfl, hx, T.cl, T.nHeld, lkH _, true, .inr (.inl ⟨_, SqT.of hq, ne.symm⟩), iteF ?_⟩
      refine ⟨_, rfl, x, C, dx, _, _, rfl, hx, T.cl, T.nHeld, lkH _, _, rfl, q, _, _, _, rfl, rfl, SqT.of hq, atI_last _ _, t, _, _, _, rfl, rfl, SqT.of ht, atI_nat (j := 1) rfl, ?_⟩
      rw [enB_snoc] at k
      obtain ⟨fi, la⟩ := s
      cases la with
      | none => exact ⟨rfl, k⟩
      | some l => exact ⟨rfl, k⟩
abbrev s_Numbers_bool : Stmt := inClass (top 10) 11
theorem sc_Numbers_bool : FnScope ["self"] ["self"] (defScope s_Numbers_bool) := ⟨rfl, rfl, rfl, by decide +kernel, rfl, by decide +kernel, by decide +kernel⟩

theorem ok_nbool {f : Addr} {fd : FuncData} (F : Fun K "__bool__" "Numbers.__bool__" s_Numbers_bool f fd) (T : TxtO K mg tC C) : FnOk P w K mg base CX0 1 f fd ["self"] (spBo C) := by
  refine F.ok sc_Numbers_bool (fun vs H Q E h => ?_) (fun cdv A outer s H vs Q E hr h => ?_)
  · obtain ⟨x, r, rfl, _⟩ := h
    rfl
  · obtain ⟨x, r, rfl, ⟨dx, q, hx, ws, hq, hw⟩, k⟩ := h
    refine ⟨_, (pss_one (ps_ret (pe_callTy call_boolT (by rfl) T.bool_ (by decide +kernel) (pa_cons (pe_fld (pv 0) rfl) pa_nil)))), ?_⟩
    have e : (!ws.isEmpty) = (!r.isEmpty) := by cases hw <;> rfl
    rw [← e] at k
    exact ⟨_, rfl, x, C, dx, _, _, rfl, hx, T.cl, T.nHeld, lkH _, q, ws, rfl, SqT.of hq, k⟩
theorem ok_contD {f : Addr} {fd : FuncData} (F : Fun K "__contains__" "Numbers.__contains__" s_Numbers_contains f fd) (T : TxtO K mg tC C) (D_is_integer : Df P w K mg base 1 "is_integer" ["value"] (spIntG K)) (D_lies_within : Df P w K mg base 1 "lies_within" ["number", "stretch"] spLies) : FnOk P w K mg base CX0 2 f fd ["self", "x"] (spContD K C) := by
  refine F.ok sc_Numbers_contains (fun vs H Q E h => ?_) (fun cdv A outer s H vs Q E hr h => ?_)
  · obtain ⟨x, v, d, r, rfl, _⟩ := h
    rfl
  · obtain ⟨x, v, d, r, rfl, ⟨dx, q, hx, ws, hq, hw⟩, hd, len, k⟩ := h
    refine ⟨_, (pss_one (ps_ret (pe_and (pe_df D_is_integer (hr.mono (by decide)) (by rfl) (pa_cons (pv 1) pa_nil)) (pe_one (pe_callB (cr_any rfl) (by rfl) T.any (by decide +kernel) (pa_cons (pe_lc (own := [("stretch", 2)]) (g := gName 2) (tt := tYes) rfl sc_Numbers_contains.nd (pi_tup (pe_fld (pv 0) rfl)) (blkOk_by (N := ["self", "x", "stretch"]) (sc := defScope s_Numbers_contains) (by decide +kernel)) (fun _ _ _ _ _ => pg_name (i := 2) sc_Numbers_contains.nd rfl (Or.inl rfl)) (fun _ _ _ _ _ => pts_nil) (fun _ _ _ _ _ => (pe_df D_lies_within (hr.mono (by decide)) (by rfl) (pa_cons (pv 1) (pa_cons (pv 2) pa_nil))))) pa_nil)))))), ?_⟩
    refine ⟨_, rfl, v, d, rfl, hd, _, rfl, ?_⟩
    cases h1 : isIntD d with
    | false =>
      have e : contD r d = false := by cases d <;> first | rfl | exact absurd h1 (by simp [isIntD])
      rw [e] at k
      exact iteF (k _ (Same.refl _))
    | true =>
      obtain ⟨n, rfl⟩ : ∃ i, d = .int i := by cases d <;> first | exact ⟨_, rfl⟩ | exact absurd h1 (by simp [isIntD])
      have ev : v = .int n := by
        cases hd with
        | dp a b => cases a with
          | int i => rfl
      subst ev
      refine iteT ?_
      refine ⟨_, rfl, x, C, dx, _, _, rfl, hx, T.cl, T.nHeld, lkH _, q, rfl, ⟨_, SqT.of hq⟩, fun D hD => ?_⟩
      refine lc_tup (K := K) (a := q) (xs := ws) (fun i H' => But D H H' ∧ H' D = some (.lst (((r.take i).map fun s => inb s n).map V.bl))) ⟨But.upd, upd_same⟩ (fun i H' _ h => SqT.of (h.1 _ _ (ne_of_none hq hD) hq)) ?_ ?_
      · rintro i y H' hy ⟨bD, hDi⟩
        obtain ⟨s', hs, t, rfl, ht⟩ := hw.at_ hy
        have ht1 := bD _ _ (ne_of_none ht hD) ht
        have il : i < r.length := (List.getElem?_eq_some_iff.mp hs).1
        refine ⟨rfl, ?_⟩
        unfold tYes
        refine iteT ?_
        refine ⟨_, rfl, _, rfl, n, .ref t, s', rfl, ⟨t, rfl, ht1⟩, _, hDi, ?_, ?_, ?_⟩
        · rw [List.length_map, List.length_map, List.length_take]
          exact small1000 (by omega)
        · intro q' o nq e'
          rw [upd_ne nq]
          exact bD _ _ nq e'
        · rw [upd_same, List.take_succ, hs]
          simp
      · rintro H' ⟨bD, hDn⟩
        rw [hw.length, List.take_length] at hDn
        refine ⟨D, _, rfl, SqL.of hDn, ?_⟩
        have e : (r.map fun s => inb s n).any id = heldb r n := by
          unfold heldb
          rw [List.any_map]
          rfl
        rw [e]
        exact k _ fun q o e => bD _ _ (ne_of_none e hD) e
theorem ok_eqA {f : Addr} {fd : FuncData} (F : Fun K "__eq__" "Numbers.__eq__" s_Numbers_eq f fd) (T : TxtO K mg tC C) : FnOk P w K mg base CX0 1 f fd ["self", "other"] (spEqA K C) := by
  refine F.ok sc_Numbers_eq (fun vs H Q E h => ?_) (fun cdv A outer s H vs Q E hr h => ?_)
  · obtain ⟨x, dx, fs, v, t, rfl, _⟩ := h
    rfl
  · obtain ⟨x, dx, fs, v, t, rfl, hx, ht, kt, k⟩ := h
    refine ⟨_, (pss_one (ps_ret (pe_and (pe_callB call_isi (by rfl) T.isinstance (by decide +kernel) (pa_cons (pv 1) (pa_cons (pe_glob (v := .ref C) rfl T.mgC rfl) pa_nil))) (pe_one (pe_cmpR (op_eqD hr.units) (pe_fld (pv 0) rfl) (pe_fld (pv 1) rfl) (nomark _)))))), ?_⟩
    exact ⟨_, rfl, _, _, _, _, false, rfl, .own C, ht, kt, false, rfl, iteF k⟩
abbrev s_Numbers_ascending : Stmt := inClass (top 10) 4
theorem sc_Numbers_ascending : GScope ["self", "count", "left", "first", "last", "end", "number"] ["self", "count"] (defScope s_Numbers_ascending) := ⟨rfl, rfl, rfl, by decide +kernel, rfl, by decide +kernel, by decide +kernel⟩
theorem ok_asc {f : Addr} {oc kV doc pm cdv ct : Value} {an od : Option Addr} {osl : Array (Option Value)} (lk : K.lookup f = some ⟨oc, od, .func (PySem.W.fnOf "ascending" "Numbers.ascending" (defArgs s_Numbers_ascending) (defBody s_Numbers_ascending) (defScope s_Numbers_ascending) .none kV doc pm an cdv ct), osl⟩) (hcd : PySem.W.codeIn K cdv "Numbers.ascending" = true)
    (T : TxtO K mg tC C) (D_is_count : Df P w K mg base 3 "is_count" ["value"] spCount) :
    GFn P w K mg base 5 f (PySem.W.fnOf "ascending" "Numbers.ascending" (defArgs s_Numbers_ascending) (defBody s_Numbers_ascending) (defScope s_Numbers_ascending) .none kV doc pm an cdv ct) ["self", "count"] (spAsc C) := by
  refine gfn_of lk hcd sc_Numbers_ascending (fun vs H Q E h => ?_) fun A outer s H vs Q E pn hr h => ?_
  · obtain ⟨x, n, r, rfl, _⟩ := h
    rfl
  · obtain ⟨x, n, r, rfl, ⟨dx, q, hx, ws, hq, hw⟩, hF, n100, k⟩ := h
    refine ⟨_, gss_cons (gs_ps (ps_if (pt_not (pt_val (pe_df D_is_count (hr.mono (by decide)) (by rfl) (pa_cons (pv 1) pa_nil)))) (pss_one ps_never) pss_nil)) (gss_cons (gs_ps (ps_set (i := 2) sc_Numbers_ascending.nd rfl (.inl rfl) (pv 1))) (gss_cons (gs_for owns_gcx rfl (pi_tup (pe_fld (pv 0) rfl)) (pg_tup rfl (pgs_cons (pg_name (i := 3) sc_Numbers_ascending.nd rfl (.inl rfl)) (pgs_cons (pg_name (i := 4) sc_Numbers_ascending.nd rfl (.inl rfl)) pgs_nil)))
      (gss_cons (gs_ps (ps_set (i := 5) sc_Numbers_ascending.nd rfl (.inl rfl) (pe_ifExp (pt_cmpR op_isN (pv 4) pe_non (nomark _)) (pe_op op_add (pv 3) (pv 2)) (pe_callB (call_min2 rfl) (by rfl) T.min (by decide +kernel) (pa_cons (pe_op op_add (pv 3) (pv 2)) (pa_cons (pe_op op_add (pv 4) pe_int) pa_nil))))))
      (gss_cons (gs_for owns_gcx rfl (pi_range2W rfl T.range (pa_cons (pv 3) (pa_cons (pv 5) pa_nil))) (pg_name (i := 6) sc_Numbers_ascending.nd rfl (.inl rfl)) (gss_cons (gs_yield (pv 6)) gss_nil))
      (gss_cons (gs_ps (ps_aug (i := 2) sc_Numbers_ascending.nd rfl (.inl rfl) (pe_op op_sub (pv 5) (pv 3)) ip_sub)) gss_nil)))) gss_nil)), ?_⟩
    have lw := hw.length
    refine ⟨_, rfl, (n : Int), rfl, by omega, by omega, _, rfl, iteF ?_⟩
    refine ⟨_, rfl, ?_⟩
    refine ⟨_, rfl, x, C, dx, _, _, rfl, hx, T.cl, T.nHeld, lkH _, q, rfl, ⟨_, SqT.of hq⟩, ?_⟩
    refine gfor_tup (K := K) (a := q) (xs := ws) (fun i ys σ H' => Same H H' ∧ ys = (firstF (r.take i) n).map V.int ∧ ∃ (m : Nat) (v3 v4 v5 v6 : Option V), m = n - (firstF (r.take i) n).length ∧ σ = [some (.ref x), some (.int (n : Int)), some (.int (m : Int)), v3, v4, v5, v6]) ⟨Same.refl _, rfl, n, none, none, none, none, rfl, rfl⟩ (fun i ys σ H' _ h => SqT.of (h.1 _ _ hq)) ?_ ?_
    · rintro i y ys σ H' hy ⟨s1, rfl, m, v3, v4, v5, v6, em, rfl⟩
      obtain ⟨⟨fi, la⟩, hs, t, rfl, ht⟩ := hw.at_ hy
      have ht1 := s1 _ _ ht
      have il : i < r.length := (List.getElem?_eq_some_iff.mp hs).1
      have tk : r.take (i + 1) = r.take i ++ [(fi, la)] := by
        rw [List.take_succ, hs]
        rfl
      have fl := firstF_le (r.take i) n
      have mn : m ≤ n := by omega
      have cl := cntS_le (fi, la) m
      obtain ⟨_, fl2⟩ := form_in hF (by decide) (fi, la) (List.mem_of_getElem? hs)
      refine ⟨t, _, rfl, SqT.of ht1, rfl, _, _, rfl, _, _, rfl, rfl, ?_⟩
      cases la with
      | none =>
        refine ⟨_, rfl, rfl, true, rfl, iteT ⟨_, rfl, _, rfl, _, _, rfl, rfl, ?_⟩⟩
        obtain ⟨e, he⟩ : ∃ e : Int, e = fi + (m : Int) := ⟨_, rfl⟩
        have hc : cntS (fi, none) m = m := rfl
        show gName 5 (V.int (fi + (m : Int))) _ _ _
        rw [← he]
        have ce : (e - fi).toNat = cntS (fi, none) m := by omega
        refine ⟨_, rfl, _, rfl, fi, e, rfl, ?_⟩
        refine gfor_range (lo := fi) (n := (e - fi).toNat) (fun j ys' σ H2 => Same H H2 ∧ ys' = (firstF (r.take i) n).map V.int ++ ((List.range j).map fun z : Nat => fi + (z : Int)).map V.int ∧ ∃ v6, σ = [some (V.ref x), some (V.int (n : Int)), some (V.int (m : Int)), some (V.int fi), some V.non, some (V.int e), v6]) ⟨s1, by simp, v6, rfl⟩ ?_ ?_
        · rintro j ys' σ H2 hj ⟨s2, rfl, v6', rfl⟩
          refine ⟨?_, _, rfl, s2, ?_, _, rfl⟩
          · rw [List.length_append, List.length_map, List.length_map, List.length_map, List.length_range]
            exact small1000 (by omega)
          · rw [takeS_part (s := (fi, none)) j, List.map_append, ← List.append_assoc]
            rfl
        · rintro ys' σ H2 ⟨s2, rfl, v6', rfl⟩
          refine ⟨_, rfl, _, rfl, _, rfl, _, _, rfl, rfl, (m : Int), e - fi, rfl, rfl, s2, ?_, m - cntS (fi, none) m, some (V.int fi), some V.non, some (V.int e), v6', ?_, ?_⟩
          · rw [tk, firstF_snoc, List.map_append, ← em, ce]
            rfl
          · rw [tk, firstF_snoc, List.length_append, takeS_len, ← em]
            omega
          · have : (m : Int) - (e - fi) = ((m - cntS (fi, none) m : Nat) : Int) := by omega
            rw [← this]
            rfl
      | some l =>
        have lf := fl2 l rfl
        refine ⟨_, rfl, rfl, false, rfl, iteF ⟨_, rfl, _, rfl, _, _, rfl, rfl, _, rfl, _, _, rfl, rfl, _, _, rfl, ?_⟩⟩
        obtain ⟨e, he⟩ : ∃ e : Int, e = if l + 1 < fi + (m : Int) then l + 1 else fi + (m : Int) := ⟨_, rfl⟩
        have hc : cntS (fi, some l) m = min m (l + 1 - fi).toNat := rfl
        have he2 : e = fi + (cntS (fi, some l) m : Int) := by
          rw [he, hc]
          dsimp only at lf
          split <;> omega
        show gName 5 (V.int (if l + 1 < fi + (m : Int) then l + 1 else fi + (m : Int))) _ _ _
        rw [← he]
        have ce : (e - fi).toNat = cntS (fi, some l) m := by omega
        refine ⟨_, rfl, _, rfl, fi, e, rfl, ?_⟩
        refine gfor_range (lo := fi) (n := (e - fi).toNat) (fun j ys' σ H2 => Same H H2 ∧ ys' = (firstF (r.take i) n).map V.int ++ ((List.range j).map fun z : Nat => fi + (z : Int)).map V.int ∧ ∃ v6, σ = [some (V.ref x), some (V.int (n : Int)), some (V.int (m : Int)), some (V.int fi), some (V.int l), some (V.int e), v6]) ⟨s1, by simp, v6, rfl⟩ ?_ ?_
        · rintro j ys' σ H2 hj ⟨s2, rfl, v6', rfl⟩
          refine ⟨?_, _, rfl, s2, ?_, _, rfl⟩
          · rw [List.length_append, List.length_map, List.length_map, List.length_map, List.length_range]
            exact small1000 (by omega)
          · rw [takeS_part (s := (fi, some l)) j, List.map_append, ← List.append_assoc]
            rfl
        · rintro ys' σ H2 ⟨s2, rfl, v6', rfl⟩
          refine ⟨_, rfl, _, rfl, _, rfl, _, _, rfl, rfl, (m : Int), e - fi, rfl, rfl, s2, ?_, m - cntS (fi, some l) m, some (V.int fi), some (V.int l), some (V.int e), v6', ?_, ?_⟩
          · rw [tk, firstF_snoc, List.map_append, ← em, ce]
            rfl
          · rw [tk, firstF_snoc, List.length_append, takeS_len, ← em]
            omega
          · have : (m : Int) - (e - fi) = ((m - cntS (fi, some l) m : Nat) : Int) := by omega
            rw [← this]
            rfl
    · rintro ys σ H' ⟨s1, rfl, _⟩
      rw [lw, List.take_length]
      exact k _ s1
end
end RL

set_option maxHeartbeats 2000000
namespace RL
open PySem L2 PySem.Spec PyProof.Rows
theorem shT_u (s : Sh) : Uok (shT s) := by
  unfold shT
  split
  · exact (Uok.of _).app (Uok.of _)
  · split
    · exact Uok.of _
    · exact ((Uok.of _).app (Uok.of _)).app (Uok.of _)
theorem fitsApp {n : Nat} {a b : Str} (h : OkT n (a ++ b)) (hn : n ≤ 100000 := by decide) : a.length + b.length ≤ sizeLine := by
  have := h.len
  rw [Str.length_append] at this
  rw [sizeLine_eq]
  omega
def wordsD (r : List Sh) : List PyData := r.map fun s => .str (shT s)
theorem lay_words : ∀ r : List Sh, PyData.canLayAll0 (wordsD r) = true ∧ PyData.depthAll (wordsD r) = 0
  | [] => ⟨rfl, rfl⟩
  | s :: r => by
    obtain ⟨a, b⟩ := lay_words r
    have := strOk_of (shT_u s)
    refine ⟨?_, ?_⟩
    · show (PyData.canLay0 (.str (shT s)) && PyData.canLayAll0 (wordsD r)) = true
      rw [a]
      simp [PyData.canLay0, this]
    · show max (PyData.depth (.str (shT s))) (PyData.depthAll (wordsD r)) = 0
      rw [b]
      simp [PyData.depth]
theorem sh_words (r : List Sh) : SeqAt.shaped (.list (wordsD r)) = true := by
  obtain ⟨a, b⟩ := lay_words r
  unfold SeqAt.shaped
  simp [PyData.canLay0, PyData.depth, a, b]
theorem dp_words {K : PySem.W.Frag} {H : Hp} : ∀ r : List Sh, DpAll K H ((r.map shT).map V.str) (wordsD r)
  | [] => .nil
  | s :: r => .cons (.str _) (dp_words r)
section
variable {P : Program} {w : World} {K : PySem.W.Frag} {mg : Str → Option Value} {base : Heap} {C fN : Addr} {tC : Tok}
abbrev s_law_cut_words : Stmt := top 25
theorem sc_law_cut_words : FnScope ["_law_cuts_here", "_law_found", "_law_first_here", "_law_last"] ["_law_cuts_here"] (defScope s_law_cut_words) := ⟨rfl, rfl, rfl, by decide +kernel, rfl, by decide +kernel, by decide +kernel⟩

theorem ok_words {f : Addr} {fd : FuncData} (F : Fun K "_law_cut_words" "_law_cut_words" s_law_cut_words f fd) (T : Txt K mg) : FnOk P w K mg base CX0 1 f fd ["_law_cuts_here"] spWords := by
  refine F.ok sc_law_cut_words (fun vs H Q E h => ?_) (fun cdv A outer s H vs Q E hr h => ?_)
  · obtain ⟨a, r, rfl, _⟩ := h
    rfl
  · obtain ⟨a, r, rfl, ⟨ws, ha, hw⟩, hs, l5, k⟩ := h
    refine ⟨_, (pss_cons (ps_set (i := 1) sc_law_cut_words.nd rfl (.inl rfl) (pe_lst pa_nil))
      (pss_cons (ps_for PassesOwn.never rfl (pi_list (pv 0)) (pg_tup rfl (pgs_cons (pg_name (i := 2) sc_law_cut_words.nd rfl (.inl rfl)) (pgs_cons (pg_name (i := 3) sc_law_cut_words.nd rfl (.inl rfl)) pgs_nil))) (pss_one (ps_if (pt_cmpR op_isN (pv 3) pe_non (nomark _)) (pss_one (ps_expr (pe_bm PySem.F.plainAttrs_list PySem.F.slot_list_append PySem.F.type_list_append mt_append (pv 1) (pa_cons (pe_op op_add_str pe_str (pe_callTy call_str_int (by rfl) T.str_ (by decide +kernel) (pa_cons (pv 2) pa_nil))) pa_nil)))) (pss_one (ps_expr (pe_bm PySem.F.plainAttrs_list PySem.F.slot_list_append PySem.F.type_list_append mt_append (pv 1) (pa_cons (pe_ifExp (pt_cmpR op_eq (pv 2) (pv 3) (nomark _)) (pe_callTy call_str_int (by rfl) T.str_ (by decide +kernel) (pa_cons (pv 2) pa_nil)) (pe_op op_add_str (pe_op op_add_str (pe_callTy call_str_int (by rfl) T.str_ (by decide +kernel) (pa_cons (pv 2) pa_nil)) pe_str) (pe_callTy call_str_int (by rfl) T.str_ (by decide +kernel) (pa_cons (pv 3) pa_nil)))) pa_nil)))))))
      (pss_one (ps_ret (pe_ifExp (pt_cmpR (op_neD hr.units) (pv 1) (pe_lst pa_nil) (nomark _)) (pe_join pe_str (pv 1)) pe_str))))), ?_⟩
    refine ⟨Nat.zero_le _, fun l nl => ?_⟩
    have b0 : But l H (upd H l (.lst [])) := But.upd
    have hl0 : (upd H l (.lst [])) l = some (.lst []) := upd_same
    have nla := ne_of_none ha nl
    generalize upd H l (.lst []) = H0 at *
    refine ⟨_, rfl, a, rfl, ⟨_, SqL.of (b0 _ _ nla ha)⟩, ?_⟩
    refine for_list (K := K) (a := a) (xs := ws) (fun i σ H' => But l H H' ∧ (∃ v2 v3, σ = [some (.ref a), some (.ref l), v2, v3]) ∧ H' l = some (.lst (((r.take i).map shT).map V.str))) ⟨b0, ⟨_, _, rfl⟩, hl0⟩ (fun i σ H' _ h => SqL.of (h.1 _ _ nla ha)) ?_ ?_
    · rintro i y σ H1 hy ⟨b1, ⟨v2, v3, rfl⟩, hl1⟩
      obtain ⟨⟨fi, la⟩, hs', t, rfl, ht⟩ := hw.at_ hy
      have ht1 := b1 _ _ (ne_of_none ht nl) ht
      have il : i < r.length := (List.getElem?_eq_some_iff.mp hs').1
      have tk : r.take (i + 1) = r.take i ++ [(fi, la)] := by
        rw [List.take_succ, hs']
        rfl
      obtain ⟨sm1, sm2⟩ := (hs _ (List.mem_of_getElem? hs')).sm
      have lf : fi.natAbs.log2 < 1920 := Nat.lt_trans (log_sm (by decide) sm1) (by decide)
      refine ⟨t, _, rfl, SqT.of ht1, rfl, _, _, rfl, _, _, rfl, rfl, ?_⟩
      have fin : ∀ x : Str, x = shT (fi, la) → But l H (upd H1 l (.lst (((r.take i).map shT).map V.str ++ [V.str x]))) ∧ (upd H1 l (.lst (((r.take i).map shT).map V.str ++ [V.str x]))) l = some (.lst (((r.take (i + 1)).map shT).map V.str)) := fun x hx => by
        refine ⟨b1.trans But.upd, ?_⟩
        rw [upd_same, tk, List.map_append, List.map_append, hx]
        rfl
      have ll : (((r.take i).map shT).map V.str).length ≤ 1000 := by
        rw [List.length_map, List.length_map, List.length_take]
        omega
      cases la with
      | none =>
        refine ⟨_, rfl, rfl, true, rfl, iteT ?_⟩
        refine ⟨_, rfl, .inl ⟨rfl, _, SqL.of hl1⟩, _, rfl, _, rfl, lf, _, _, rfl, rfl, fitsApp ((OkT.of "from ").app (ts_ok sm1)), l, _, _, rfl, rfl, hl1, small1000 ll, ?_⟩
        obtain ⟨f1, f2⟩ := fin _ rfl
        exact ⟨f1, ⟨_, _, rfl⟩, f2⟩
      | some m =>
        have sm3 : Sm 200 m := sm2 m rfl
        have lm : m.natAbs.log2 < 1920 := Nat.lt_trans (log_sm (by decide) sm3) (by decide)
        refine ⟨_, rfl, rfl, false, rfl, iteF ?_⟩
        refine ⟨_, rfl, .inl ⟨rfl, _, SqL.of hl1⟩, _, rfl, _, rfl, rfl, _, rfl, ite2 (fun e => ?_) (fun e => ?_)⟩
        · refine ⟨_, rfl, _, rfl, lf, l, _, _, rfl, rfl, hl1, small1000 ll, ?_⟩
          have e0 : fi = m := V.int.inj (of_decide_eq_true e)
          obtain ⟨f1, f2⟩ := fin (ts fi) (by show _ = if fi = m then ts fi else _; rw [if_pos e0])
          exact ⟨f1, ⟨_, _, rfl⟩, f2⟩
        · have e0 : ¬ fi = m := fun z => e (decide_eq_true (congrArg V.int z))
          have o1 := (ts_ok sm1).app (OkT.of " to ")
          refine ⟨_, rfl, _, rfl, lf, _, _, rfl, rfl, fitsApp o1, _, rfl, _, rfl, lm, _, _, rfl, rfl, fitsApp (o1.app (ts_ok sm3)), l, _, _, rfl, rfl, hl1, small1000 ll, ?_⟩
          obtain ⟨f1, f2⟩ := fin (ts fi ++ Str.ofString " to " ++ ts m) (by show _ = if fi = m then ts fi else _; rw [if_neg e0])
          exact ⟨f1, ⟨_, _, rfl⟩, f2⟩
    · rintro σ H1 ⟨b1, ⟨v2, v3, rfl⟩, hl1⟩
      rw [hw.length, List.take_length] at hl1
      refine ⟨_, rfl, Nat.zero_le _, fun l2 nl2 => ?_⟩
      have s2 := same_upd (o := .lst []) nl2
      have hl2 := s2 _ _ hl1
      have sf : Same H (upd H1 l2 (.lst [])) := fun q o e => s2 _ _ (b1 _ _ (ne_of_none e nl) e)
      refine ⟨.list (wordsD r), .list [], .lst (SqL.of hl2) (dp_words r), .lst (SqL.of upd_same) .nil, sh_words r, rfl, _, rfl, ite2 (fun e => ?_) (fun e => ?_)⟩
      · cases r with
        | nil => exact absurd e (by simp [wordsD, PyData.eqv, PyData.eqvAll])
        | cons s0 r0 =>
          have k : ∀ H', Same H H' → Q (.str (rowT (s0 :: r0))) H' := k
          refine ⟨⟨_, rfl⟩, _, rfl, _, l, (s0 :: r0).map shT, rfl, rfl, .inl (SqL.of hl2), ?_, k _ sf⟩
          have h2 := sum_lenB hs
          have h3 : (Str.ofString ", ").length = 2 := by decide +kernel
          rw [List.length_map]
          show _ + (s0 :: r0).length * (Str.ofString ", ").length ≤ 16777216
          rw [h3]
          omega
      · cases r with
        | nil => exact k _ sf
        | cons s0 r0 => exact absurd (by simp [wordsD, PyData.eqv, PyData.eqvAll]) e
abbrev s_law_first : Stmt := top 28
theorem sc_law_first : FnScope ["_law_cuts_here", "_law_many", "_law_found", "_law_first_here", "_law_last", "_law_place"] ["_law_cuts_here", "_law_many"] (defScope s_law_first) := ⟨rfl, rfl, rfl, by decide +kernel, rfl, by decide +kernel, by decide +kernel⟩

theorem ok_first {f : Addr} {fd : FuncData} (F : Fun K "_law_first" "_law_first" s_law_first f fd) (T : Txt K mg) : FnOk P w K mg base CX0 1 f fd ["_law_cuts_here", "_law_many"] spFirst := by
  refine F.ok sc_law_first (fun vs H Q E h => ?_) (fun cdv A outer s H vs Q E hr h => ?_)
  · obtain ⟨a, n, r, rfl, _⟩ := h
    rfl
  · obtain ⟨a, n, r, rfl, ⟨ws, ha, hw⟩, hF, n100, k⟩ := h
    refine ⟨_, (pss_cons (ps_set (i := 2) sc_law_first.nd rfl (.inl rfl) (pe_lst pa_nil))
      (pss_cons (ps_for PassesOwn.never rfl (pi_list (pv 0)) (pg_tup rfl (pgs_cons (pg_name (i := 3) sc_law_first.nd rfl (.inl rfl)) (pgs_cons (pg_name (i := 4) sc_law_first.nd rfl (.inl rfl)) pgs_nil))) (pss_cons (ps_set (i := 5) sc_law_first.nd rfl (.inl rfl) (pv 3))
      (pss_one (ps_while PassesOwn.never (PW.pt (pw_and (pt_cmpR op_lt (pe_callB call_len_seq (by rfl) T.len (by decide +kernel) (pa_cons (pv 2) pa_nil)) (pv 1) (nomark _)) (pw_and1 (PW.pt (pw_or (pt_cmpR op_isN (pv 4) pe_non (nomark _)) (pw_or1 (pt_cmpR op_le (pv 5) (pv 4) (nomark _)))))))) (pss_cons (ps_expr (pe_bm PySem.F.plainAttrs_list PySem.F.slot_list_append PySem.F.type_list_append mt_append (pv 2) (pa_cons (pv 5) pa_nil)))
      (pss_one (ps_set (i := 5) sc_law_first.nd rfl (.inl rfl) (pe_op op_add (pv 5) pe_int))))))))
      (pss_one (ps_ret (pv 2))))), ?_⟩
    refine ⟨Nat.zero_le _, fun l nl => ?_⟩
    have b0 : But l H (upd H l (.lst [])) := But.upd
    have hl0 : (upd H l (.lst [])) l = some (.lst []) := upd_same
    have nla := ne_of_none ha nl
    generalize upd H l (.lst []) = H0 at *
    refine ⟨_, rfl, a, rfl, ⟨_, SqL.of (b0 _ _ nla ha)⟩, ?_⟩
    refine for_list (K := K) (a := a) (xs := ws) (fun i σ H' => But l H H' ∧ (∃ v3 v4 v5, σ = [some (.ref a), some (.int (n : Int)), some (.ref l), v3, v4, v5]) ∧ H' l = some (.lst ((firstF (r.take i) n).map V.int))) ⟨b0, ⟨_, _, _, rfl⟩, hl0⟩ (fun i σ H' _ h => SqL.of (h.1 _ _ nla ha)) ?_ ?_
    · rintro i y σ H1 hy ⟨b1, ⟨v3, v4, v5, rfl⟩, hl1⟩
      obtain ⟨⟨fi, la⟩, hs', t, rfl, ht⟩ := hw.at_ hy
      have ht1 := b1 _ _ (ne_of_none ht nl) ht
      have tk : r.take (i + 1) = r.take i ++ [(fi, la)] := by
        rw [List.take_succ, hs']
        rfl
      obtain ⟨_, fl2⟩ := form_in hF (by decide) (fi, la) (List.mem_of_getElem? hs')
      have fl := firstF_le (r.take i) n
      obtain ⟨m, em⟩ : ∃ m, m = n - (firstF (r.take i) n).length := ⟨_, rfl⟩
      refine ⟨t, _, rfl, SqT.of ht1, rfl, _, _, rfl, _, _, rfl, rfl, ?_⟩
      refine ⟨_, rfl, ?_⟩
      refine while_by (fun σ H' => But l H H' ∧ ∃ j : Nat, j ≤ cntS (fi, la) m ∧ σ = [some (.ref a), some (.int (n : Int)), some (.ref l), some (.int fi), some (eV la), some (.int (fi + (j : Int)))] ∧ H' l = some (.lst ((firstF (r.take i) n ++ (List.range j).map fun z : Nat => fi + (z : Int)).map V.int))) (fun σ _ => match σ with | [_, _, _, _, _, some (.int p)] => (fi + 200 - p).toNat | _ => 0) ⟨b1, 0, Nat.zero_le _, by simp, by simpa using hl1⟩ ?_ ?_
      · rintro σ H2 ⟨b2, j, hj, rfl, hl2⟩
        have lj : ((firstF (r.take i) n ++ (List.range j).map fun z : Nat => fi + (z : Int)).map V.int).length = (firstF (r.take i) n).length + j := by
          rw [List.length_map, List.length_append, List.length_map, List.length_range]
        have cl := cntS_le (fi, la) m
        have more : j < cntS (fi, la) m → But l H (upd H2 l (.lst ((firstF (r.take i) n ++ (List.range j).map fun z : Nat => fi + (z : Int)).map V.int ++ [V.int (fi + (j : Int))]))) ∧ (upd H2 l (.lst ((firstF (r.take i) n ++ (List.range j).map fun z : Nat => fi + (z : Int)).map V.int ++ [V.int (fi + (j : Int))]))) l = some (.lst ((firstF (r.take i) n ++ (List.range (j + 1)).map fun z : Nat => fi + (z : Int)).map V.int)) := fun hj' => by
          refine ⟨b2.trans But.upd, ?_⟩
          rw [upd_same, takeS_part (s := (fi, la)) j, ← List.append_assoc, List.map_append (l₁ := firstF (r.take i) n ++ _)]
          rfl
        have go : j < cntS (fi, la) m → ∀ {e5 : Int}, e5 = fi + (j : Int) + 1 → e5 = fi + ((j + 1 : Nat) : Int) := fun _ {e5} h => by omega
        have stop : j = cntS (fi, la) m → But l H H2 ∧ H2 l = some (.lst ((firstF (r.take (i + 1)) n).map V.int)) := fun e => by
          refine ⟨b2, ?_⟩
          rw [hl2, tk, firstF_snoc, ← em, e]
          rfl
        refine ⟨_, rfl, l, _, rfl, .inl (SqL.of hl2), _, rfl, _, _, rfl, rfl, _, rfl, ite2 (fun e1 => ?_) (fun e1 => ?_)⟩
        · have e2 := of_decide_eq_true e1
          rw [lj] at e2
          have jm : j < m := by omega
          cases la with
          | none =>
            refine ⟨_, rfl, rfl, true, rfl, iteT (iteT ?_)⟩
            · have jc : j < cntS (fi, none) m := by show j < m; exact jm
              obtain ⟨m1, m2⟩ := more jc
              refine ⟨_, rfl, .inl ⟨rfl, _, SqL.of hl2⟩, _, rfl, l, _, _, rfl, rfl, hl2, small1000 (by rw [lj]; omega), ?_⟩
              refine ⟨_, rfl, _, _, rfl, rfl, ?_⟩
              refine ⟨⟨m1, j + 1, jc, ?_, m2⟩, ?_⟩
              · rw [← go jc rfl]
                rfl
              · show (fi + 200 - (fi + (j : Int) + 1)).toNat < (fi + 200 - (fi + (j : Int))).toNat
                omega
          | some lst =>
            have lf := fl2 lst rfl
            dsimp only at lf
            have cs : cntS (fi, some lst) m = min m (lst + 1 - fi).toNat := rfl
            refine ⟨_, rfl, rfl, false, rfl, iteF ⟨_, rfl, _, rfl, _, _, rfl, rfl, _, rfl, ite2 (fun e3 => ?_) (fun e3 => ?_)⟩⟩
            · have jc : j < cntS (fi, some lst) m := by have := of_decide_eq_true e3; omega
              obtain ⟨m1, m2⟩ := more jc
              refine ⟨_, rfl, .inl ⟨rfl, _, SqL.of hl2⟩, _, rfl, l, _, _, rfl, rfl, hl2, small1000 (by rw [lj]; omega), ?_⟩
              refine ⟨_, rfl, _, _, rfl, rfl, ?_⟩
              refine ⟨⟨m1, j + 1, jc, ?_, m2⟩, ?_⟩
              · rw [← go jc rfl]
                rfl
              · show (fi + 200 - (fi + (j : Int) + 1)).toNat < (fi + 200 - (fi + (j : Int))).toNat
                omega
            · have e4 : ¬ fi + (j : Int) ≤ lst := fun z => e3 (decide_eq_true z)
              obtain ⟨q1, q2⟩ := stop (by omega)
              exact ⟨q1, ⟨_, _, _, rfl⟩, q2⟩
        · have e2 : ¬ _ := fun z => e1 (decide_eq_true z)
          rw [lj] at e2
          obtain ⟨q1, q2⟩ := stop (by omega)
          refine iteF ⟨q1, ⟨_, _, _, rfl⟩, q2⟩
      · rintro σ H' Q1 Q2 hq h
        obtain ⟨x2, h2, p, ys, h3, h4, x1, h1, i, j, h5, h6, b, h7, z⟩ := h
        refine ⟨x2, h2, p, ys, h3, h4, x1, h1, i, j, h5, h6, b, h7, ?_⟩
        cases b with
        | false => exact hq _ _ z
        | true =>
          obtain ⟨x4, h8, h9, b2, h10, z⟩ := z
          refine ⟨x4, h8, h9, b2, h10, ?_⟩
          cases b2 with
          | true => exact hq _ _ z
          | false =>
            obtain ⟨x5, g1, x6, g2, i', j', g3, g4, b3, g5, z⟩ := z
            exact ⟨x5, g1, x6, g2, i', j', g3, g4, b3, g5, hq _ _ z⟩
    · rintro σ H1 ⟨b1, ⟨_, _, _, rfl⟩, hl1⟩
      rw [hw.length, List.take_length] at hl1
      exact ⟨_, rfl, k _ l (fun q o e => b1 _ _ (ne_of_none e nl) e) nl hl1⟩
end
end RL

set_option maxHeartbeats 4000000
namespace RL
open PySem L2 PySem.Spec PyProof.Rows GenW
theorem ShL.but {H H' : Hp} {a c : Addr} {r : List Sh} (h : ShL H a r) (hc : CupAt c H) (na : a ≠ c) (s : But c H H') : ShL H' a r := by
  obtain ⟨ws, h1, h2⟩ := h
  obtain ⟨u, v, hc, _⟩ := hc
  exact ⟨ws, s _ _ na h1, h2.but s (fun xs z => by rw [hc] at z; cases z)⟩
theorem lkAs (q : Addr) : ([("held", .ref q)] : List (Str × V)).lookup ("ascending" : Str) = none := by
  have h1 : (("ascending" : Str) == ("held" : Str)) = false := by decide +kernel
  simp [List.lookup, h1]
theorem Same.ext {H H' : Hp} (s : Same H H') : Ext H H' := s
theorem ne_goW {K : PySem.W.Frag} {C : Addr} {H : Hp} {x y : Addr} {r r' : List Sh} {Q : VK} (c : Cls K C) (I : IsC K C) (hx : NumAt C H x r) (hy : NumAt C H y r') (e : r = r') (q : Q (.bl false) H) : rNeOwn K C (spEqN C) (.ref x) (.ref y) H Q := by
  obtain ⟨dx, q1, h1, h2⟩ := id hx
  obtain ⟨dy, q2, h1', h2'⟩ := id hy
  refine ⟨x, dx, _, _, rfl, h1, .base (.ins h1' c I.ca I.cn I.ct I.cm), I.nf, x, y, r, r', rfl, hx, hy, _, rfl, ?_⟩
  rw [decide_eq_true e]
  exact q
def spRight : Sp := fun vs H Q _ => ∃ c : Addr, vs = [.ref c] ∧ CupAt c H ∧ ∀ H', But c H H' → Q (.bl true) H'
/-- the set of a turn -/
structure SitW (C : Addr) (H0 : Hp) (c a x : Addr) (r : List Sh) (H : Hp) : Prop where
  but : But c H0 H
  cup : CupAt c H
  na : a ≠ c
  A : ShL H a r
  X : NumAt C H x r
theorem SitW.same {C : Addr} {H0 H H' : Hp} {c a x : Addr} {r : List Sh} (h : SitW C H0 c a x r H) (s : Same H H') : SitW C H0 c a x r H' := ⟨h.but.trans (But.of s), h.cup.same s, h.na, h.A.same s, h.X.same s⟩
theorem SitW.step {C : Addr} {H0 H H' : Hp} {c a x : Addr} {r : List Sh} (h : SitW C H0 c a x r H) (s : But c H H') (hc : CupAt c H') : SitW C H0 c a x r H' := ⟨h.but.trans s, hc, h.na, h.A.but h.cup h.na s, h.X.but h.cup s⟩
/-! ### what is told of a set, as data -/
def toldW (r : List Sh) : PyData := .list [.tuple (rowD r), smD r, .bool (enB r), .bool (!r.isEmpty), .str (wT r), .str (rT r)]
theorem dp_sm {K : PySem.W.Frag} {H : Hp} (r : List Sh) : Dp K H (smV r) (smD r) := by
  cases r with
  | nil => exact .non
  | cons s r => exact .int _
theorem tame_i {i : Int} (h : Sm 107 i) : Tame 107 0 (.int i) := by
  obtain ⟨a, b, _⟩ := show_int (h.mono (n := 200) (by decide))
  refine ⟨a, by simp only [PyData.hasDict], b, ?_, by simp only [PyData.depth]; exact Nat.le_refl _⟩
  have l := log_sm (by decide) h
  show (if i == 0 then 0 else i.natAbs.log2 + 1) ≤ 107
  split <;> omega
theorem tame_str {n w : Nat} {x : Str} (h : OkT n x) (hn : n ≤ w) : Tame w 0 (.str x) := by
  obtain ⟨a, b⟩ := show_str h
  exact ⟨by simp only [PyData.showable], by simp only [PyData.hasDict], a, Nat.le_trans b hn, by simp only [PyData.depth]; exact Nat.le_refl _⟩
theorem tame_bool (b : Bool) : Tame 10 0 (.bool b) := by
  cases b <;> exact ⟨rfl, rfl, rfl, by decide +kernel, by decide +kernel⟩
theorem tame_non : Tame 10 0 .none := ⟨rfl, rfl, rfl, by decide +kernel, by decide +kernel⟩
theorem shows_told {r : List Sh} (h : ∀ s ∈ r, ShB s) (l5 : r.length ≤ 5) : Shows (toldW r) := by
  have t1 : Tame 1120 2 (.tuple (rowD r)) := by
    have : ∀ d ∈ rowD r, Tame 216 1 d := fun d hd => by
      obtain ⟨⟨f, l⟩, hs, rfl⟩ := List.mem_map.mp hd
      obtain ⟨h1, h2⟩ := h _ hs
      cases l with
      | none => exact tame_2 (tame_i h1) (tame_non.mono (by decide) (by decide))
      | some m => exact tame_2 (tame_i h1) (tame_i (h2 m rfl))
    have t := tame_tup this
    refine t.mono ?_ (by decide)
    have : (rowD r).length = r.length := List.length_map ..
    omega
  have t2 : Tame 1120 2 (smD r) := by
    cases r with
    | nil => exact tame_non.mono
    | cons s r => exact (tame_i (h s List.mem_cons_self).1).mono
  have t3 : Tame 6726 3 (toldW r) := tame_lst (xs := [.tuple (rowD r), smD r, .bool (enB r), .bool (!r.isEmpty), .str (wT r), .str (rT r)]) (w := 1120) (h := 2) fun d hd => by
    simp only [List.mem_cons, List.not_mem_nil, or_false] at hd
    rcases hd with rfl | rfl | rfl | rfl | rfl | rfl
    · exact t1
    · exact t2
    · exact (tame_bool _).mono
    · exact (tame_bool _).mono
    · exact (tame_str (w := 1120) (wT_ok h l5) (by decide)).mono
    · exact (tame_str (w := 1120) (rT_ok h l5) (by decide)).mono
  exact t3.shows
theorem row_emp (r : List Sh) : (!PyData.eqv (.list (rowD r)) (.list [])) = !r.isEmpty := by
  cases r with
  | nil => rfl
  | cons s r => simp [rowD, PyData.eqv, PyData.eqvAll]
theorem rowD_nil {r : List Sh} (h : ¬ (!PyData.eqv (.list (rowD r)) (.list [])) = true) : r = [] := by
  cases r with
  | nil => rfl
  | cons s r => exact absurd (by simp [rowD, PyData.eqv, PyData.eqvAll]) h
theorem rowD_ne {r : List Sh} (h : (!PyData.eqv (.list (rowD r)) (.list [])) = true) : r ≠ [] := by
  rintro rfl
  simp [rowD, PyData.eqv, PyData.eqvAll] at h
def oddL : List PyData := [.int (-1), .int (-(10 ^ Int.toNat 30)), .none, .bool true, .bool false, .str (Str.ofString "0"), .tuple [.int 0], .list [], .dict [], .tuple [.int 0, .int 1]]
def oddB (d : PyData) : Bool := (!d.hasDict || (match d with
  | .dict [] => true
  | _ => false)) && (match d with
  | .int n => decide (n < 0)
  | d => !isIntD d)
theorem odd_of {d : PyData} (h : oddB d = true) : Nd d ∧ ((∃ n, d = .int n ∧ n < 0) ∨ isIntD d = false) := by
  unfold oddB at h
  rw [Bool.and_eq_true, Bool.or_eq_true] at h
  refine ⟨?_, ?_⟩
  · rcases h.1 with h | h
    · exact .inl (by simpa using h)
    · cases d with
      | dict kvs =>
        cases kvs with
        | nil => exact .inr rfl
        | cons a b => cases h
      | _ => cases h
  · cases d with
    | int n => exact .inl ⟨n, rfl, of_decide_eq_true h.2⟩
    | _ => exact .inr (by simpa using h.2)
theorem held_neg {r : List Sh} (hF : Form 0 r) {n : Int} (hn : n < 0) : heldb r n = false := by
  unfold heldb
  rw [List.any_eq_false]
  intro s hs
  obtain ⟨h1, _⟩ := form_in hF (by decide) s hs
  unfold inb
  have : decide (s.1 ≤ n) = false := decide_eq_false (by omega)
  rw [this]
  simp
theorem cont_odd {r : List Sh} (hF : Form 0 r) {d : PyData} (h : (∃ n, d = .int n ∧ n < 0) ∨ isIntD d = false) : contD r d = false := by
  rcases h with ⟨n, rfl, hn⟩ | h
  · exact held_neg hF hn
  · cases d <;> first | rfl | exact absurd h (by simp [isIntD])
theorem sh_il (ns : List Int) : SeqAt.shaped (.list (ns.map PyData.int)) = true := by
  have : ∀ ns : List Int, PyData.canLayAll0 (ns.map PyData.int) = true ∧ PyData.depthAll (ns.map PyData.int) = 0 := fun ns => by
    induction ns with
    | nil => exact ⟨rfl, rfl⟩
    | cons n ns ih =>
      refine ⟨?_, ?_⟩
      · show (PyData.canLay0 (.int n) && PyData.canLayAll0 (ns.map PyData.int)) = true
        rw [ih.1]
        rfl
      · show max (PyData.depth (.int n)) (PyData.depthAll (ns.map PyData.int)) = 0
        rw [ih.2]
        simp [PyData.depth]
  obtain ⟨a, b⟩ := this ns
  unfold SeqAt.shaped
  simp [PyData.canLay0, PyData.depth, a, b]
theorem dp_il {K : PySem.W.Frag} {H : Hp} : ∀ ns : List Int, DpAll K H (ns.map V.int) (ns.map PyData.int)
  | [] => .nil
  | n :: ns => .cons (.int n) (dp_il ns)
section
variable {P : Program} {w : World} {K : PySem.W.Frag} {mg : Str → Option Value} {base : Heap} {C fN pS gS pM gM pE gE gB gT gR gC gQ gA : Addr} {fS fM fE fB fT fR fC fQ fA : FuncData} {tC : Tok}
theorem dp_told {H : Hp} {l q : Addr} {r : List Sh} (hl : H l = some (.lst [.ref q, smV r, .bl (enB r), .bl (!r.isEmpty), .str (wT r), .str (rT r)])) (hq : ShT H q r) : Dp K H (.ref l) (toldW r) :=
  .lst (SqL.of hl) (.cons (dp_shT hq) (.cons (dp_sm r) (.cons (.bl _) (.cons (.bl _) (.cons (.str _) (.cons (.str _) .nil))))))
abbrev s_law_right : Stmt := top 29
theorem sc_law_right : FnScope ["_law_cup_here", "_law_turn", "_law_cuts_here", "_law_mine", "_law_told", "_law_due", "_law_words", "_law_place", "_law_odd", "_law_thing", "_law_many", "_law_mate"] ["_law_cup_here"] (defScope s_law_right) := ⟨rfl, rfl, rfl, by decide +kernel, rfl, by decide +kernel, by decide +kernel⟩

theorem ok_right {f : Addr} {fd : FuncData} (F : Fun K "_law_right" "_law_right" s_law_right f fd) (T : TxtO K mg tC C) (I : IsC K C) (TL : mg "list" = none) (ON : OwS P w K mg base C pS gS fS) (OSm : OwP P w K mg base C pM gM fM "smallest" (spSm C)) (OEn : OwP P w K mg base C pE gE fE "endless" (spEn C)) (OBo : OwM P w K mg base C gB fB "__bool__" 1 ["self"] (spBo C)) (OT : OwM P w K mg base C gT fT "__str__" 3 ["self"] (spTx C wT)) (ORp : OwM P w K mg base C gR fR "__repr__" 3 ["self"] (spTx C rT))
    (OC : OwM P w K mg base C gC fC "__contains__" 2 ["self", "x"] (spContD K C)) (OE : OwE P w K mg base C gQ fQ) (OEA : OwEA P w K mg base C gA fA) (MO : MtG P w K mg base C 5 "ascending" "self" "count" (spAsc C))
    (D_law_cuts : Df P w K mg base 3 "_law_cuts" ["_law_cup_here"] spCuts) (D_law_set : Df P w K mg base 5 "_law_set" ["_law_s"] (spSet C)) (D_law_cut_words : Df P w K mg base 1 "_law_cut_words" ["_law_cuts_here"] spWords) (D_law_edges : Df P w K mg base 1 "_law_edges" ["_law_cuts_here"] spEdges) (D_law_holds : Df P w K mg base 1 "_law_holds" ["_law_cuts_here", "_law_place"] spHolds) (D_law_sip : Df P w K mg base 1 "_law_sip" ["_law_cup_here", "_law_many"] spSip) (D_law_first : Df P w K mg base 1 "_law_first" ["_law_cuts_here", "_law_many"] spFirst) :
    FnG P w K mg base 9 f fd ["_law_cup_here"] spRight := by
  refine okG F sc_law_right (fun vs H Q E h => ?_) (fun cdv A outer s H vs Q E hg hr h => ?_)
  · obtain ⟨c, rfl, _⟩ := h
    rfl
  · obtain ⟨c, rfl, hc, k⟩ := h
    refine ⟨_, (pss_cons (ps_for PassesOwn.never rfl (pi_range1 rfl T.range (pa_cons pe_int pa_nil)) (pg_name (i := 1) sc_law_right.nd rfl (.inl rfl)) (C8.pss_cut (ps_set (i := 2) sc_law_right.nd rfl (.inr rfl) (pe_df D_law_cuts (hr.mono (by decide)) (by rfl) (pa_cons (pv 0) pa_nil)))
      (C8.pss_cut (ps_set (i := 3) sc_law_right.nd rfl (.inr rfl) (pe_df D_law_set (hr.mono (by decide)) (by rfl) (pa_cons (pv 2) pa_nil)))
      (C8.pss_cut (ps_set (i := 4) sc_law_right.nd rfl (.inl rfl) (pe_lst (pa_cons (pe_prop (pv 3) T.cl ON.pr ON.ok (hr.mono (by decide)) ON.b .nil pass0 rfl) (pa_cons (pe_prop (pv 3) T.cl OSm.pr OSm.ok (hr.mono (by decide)) OSm.b .nil pass0 rfl) (pa_cons (pe_prop (pv 3) T.cl OEn.pr OEn.ok (hr.mono (by decide)) OEn.b .nil pass0 rfl) (pa_cons (pe_callTy (cr_boolOwn OBo.at_ OBo.fn OBo.ok OBo.b (hr.mono (by decide))) (by rfl) T.bool_ (by decide +kernel) (pa_cons (pv 3) pa_nil)) (pa_cons (pe_callTy (cr_strOwn OT.at_ OT.fn OT.ok OT.b (hr.mono (by decide))) (by rfl) T.str_ (by decide +kernel) (pa_cons (pv 3) pa_nil)) (pa_cons (pe_callB (cr_reprOwn ORp.at_ ORp.fn ORp.ok ORp.b (hr.mono (by decide))) (by rfl) T.repr (by decide +kernel) (pa_cons (pv 3) pa_nil)) pa_nil))))))))
      (C8.pss_cut (ps_set (i := 5) sc_law_right.nd rfl (.inl rfl) (pe_lst (pa_cons (pe_callTy call_tuple_of (by rfl) T.tuple_ (by decide +kernel) (pa_cons (pv 2) pa_nil)) (pa_cons (pe_ifExp (pt_cmpR (op_neD hr.units) (pv 2) (pe_lst pa_nil) (nomark _)) (pe_ix ix_tup (pe_ix ix_list (pv 2) pe_int (fun _ _ => rfl)) pe_int (fun _ _ => rfl)) pe_non) (pa_cons (pe_and (pe_cmpR (op_neD hr.units) (pv 2) (pe_lst pa_nil) (nomark _)) (pe_one (pe_cmpR op_isN (pe_ix ix_tup (pe_ix ix_list (pv 2) (pe_un un_neg pe_int) (fun _ _ => rfl)) pe_int (fun _ _ => rfl)) pe_non (nomark _)))) (pa_cons (pe_cmpR (op_neD hr.units) (pv 2) (pe_lst pa_nil) (nomark _)) pa_nil))))))
      (C8.pss_cut (ps_set (i := 6) sc_law_right.nd rfl (.inl rfl) (pe_df D_law_cut_words (hr.mono (by decide)) (by rfl) (pa_cons (pv 2) pa_nil)))
      (C8.pss_cut (ps_if (pt_cmpR op_ne (pe_callB (cr_repr hg hr.units) (by rfl) T.repr (by decide +kernel) (pa_cons (pv 4) pa_nil)) (pe_callB (cr_repr hg hr.units) (by rfl) T.repr (by decide +kernel) (pa_cons (pe_op op_cat (pv 5) (pe_lst (pa_cons (pv 6) (pa_cons (pe_op op_add_str (pe_op op_add_str pe_str (pv 6)) pe_str) pa_nil)))) pa_nil)) (nomark _)) (pss_one (ps_ret pe_bl)) pss_nil)
      (C8.pss_cut (ps_if (pt_cmpR (op_neD hr.units) (pe_lc (own := [("_law_place", 7)]) (g := gName 7) rfl sc_law_right.nd (pi_list (pe_df D_law_edges (hr.mono (by decide)) (by rfl) (pa_cons (pv 2) pa_nil))) (blkOk_by (N := ["_law_cup_here", "_law_turn", "_law_cuts_here", "_law_mine", "_law_told", "_law_due", "_law_words", "_law_place", "_law_odd", "_law_thing", "_law_many", "_law_mate"]) (sc := defScope s_law_right) (by decide +kernel)) (fun _ _ _ _ _ => pg_name (i := 7) sc_law_right.nd rfl (Or.inl rfl)) (fun _ _ _ _ _ => (pts_one (pt_cmpR op_ne (pe_cmpR (op_inOwn OC.at_ OC.fn OC.ok OC.b (hr.mono (by decide))) (pv 7) (pv 3) (by rfl)) (pe_df D_law_holds (hr.mono (by decide)) (by rfl) (pa_cons (pv 2) (pa_cons (pv 7) pa_nil))) (nomark _)))) (fun _ _ _ _ _ => (pv 7))) (pe_lst pa_nil) (nomark _)) (pss_one (ps_ret pe_bl)) pss_nil)
      (C8.pss_cut (ps_set (i := 8) sc_law_right.nd rfl (.inl rfl) (pd_lst (pds_cons (pd_neg pd_int) (pds_cons (pd_neg (pd_pow pd_int pd_int)) (pds_cons pd_non (pds_cons pd_bl (pds_cons pd_bl (pds_cons pd_str (pds_cons (pd_tup (pds_cons pd_int pds_nil)) (pds_cons (pd_lst pds_nil) (pds_cons pd_dict (pds_cons (pd_tup (pds_cons pd_int (pds_cons pd_int pds_nil))) pds_nil))))))))))))
      (C8.pss_cut (ps_if (pt_cmpR (op_neD hr.units) (pe_lc (own := [("_law_thing", 9)]) (g := gName 9) rfl sc_law_right.nd (pi_list (pv 8)) (blkOk_by (N := ["_law_cup_here", "_law_turn", "_law_cuts_here", "_law_mine", "_law_told", "_law_due", "_law_words", "_law_place", "_law_odd", "_law_thing", "_law_many", "_law_mate"]) (sc := defScope s_law_right) (by decide +kernel)) (fun _ _ _ _ _ => pg_name (i := 9) sc_law_right.nd rfl (Or.inl rfl)) (fun _ _ _ _ _ => (pts_one (pt_cmpR (op_inOwn OC.at_ OC.fn OC.ok OC.b (hr.mono (by decide))) (pv 9) (pv 3) (by rfl)))) (fun _ _ _ _ _ => (pv 9))) (pe_lst pa_nil) (nomark _)) (pss_one (ps_ret pe_bl)) pss_nil)
      (C8.pss_cut (ps_for PassesOwn.never rfl (pi_list (pe_lst (pa_cons pe_int (pa_cons pe_int (pa_cons (pe_df D_law_sip (hr.mono (by decide)) (by rfl) (pa_cons (pv 0) (pa_cons pe_int pa_nil))) (pa_cons pe_int pa_nil)))))) (pg_name (i := 10) sc_law_right.nd rfl (.inl rfl)) (pss_cons (ps_set (i := 5) sc_law_right.nd rfl (.inl rfl) (pe_df D_law_first (hr.mono (by decide)) (by rfl) (pa_cons (pv 2) (pa_cons (pv 10) pa_nil))))
      (pss_one (ps_if (PW.pt (pw_or (pt_cmpR (op_neD hr.units) (pe_listG (pgen_dm (pv 3) T.cl MO (hr.mono (by decide)) (pa_cons (pv 10) pa_nil)) passC noStop0 (hr.mono (by decide)) (by rfl) TL (by decide +kernel)) (pv 5) (nomark _)) (pw_or1 (pt_cmpR (op_neD hr.units) (pe_listG (pgen_dmK (pv 3) T.cl MO (hr.mono (by decide)) (pk_cons (pv 10) pk_nil)) passC noStop0 (hr.mono (by decide)) (by rfl) TL (by decide +kernel)) (pv 5) (nomark _))))) (pss_one (ps_ret pe_bl)) pss_nil))))
      (C8.pss_cut (ps_set (i := 11) sc_law_right.nd rfl (.inl rfl) (pe_df D_law_set (hr.mono (by decide)) (by rfl) (pa_cons (pe_df D_law_cuts (hr.mono (by decide)) (by rfl) (pa_cons (pv 0) pa_nil)) pa_nil)))
      (C8.pss_cut (ps_if (PW.pt (pw_or (pt_not (pt_cmpR (op_eqOwn OE.e_at OE.e_fn OE.ok OE.b (hr.mono (by decide))) (pv 3) (pe_df D_law_set (hr.mono (by decide)) (by rfl) (pa_cons (pv 2) pa_nil)) (nomark _))) (pw_or1 (pt_cmpR (op_neOwn OE.n_at OE.n_sub OE.e_at OE.e_fn OE.ok OE.b (hr.mono (by decide))) (pv 3) (pe_df D_law_set (hr.mono (by decide)) (by rfl) (pa_cons (pv 2) pa_nil)) (nomark _))))) (pss_one (ps_ret pe_bl)) pss_nil)
      (C8.pss_cut (ps_if (pt_cmpR op_ne (pe_cmpR (op_eqOwn OE.e_at OE.e_fn OE.ok OE.b (hr.mono (by decide))) (pv 3) (pv 11) (nomark _)) (pe_cmpR (op_eqD hr.units) (pe_prop (pv 3) T.cl ON.pr ON.ok (hr.mono (by decide)) ON.b .nil pass0 rfl) (pe_prop (pv 11) T.cl ON.pr ON.ok (hr.mono (by decide)) ON.b .nil pass0 rfl) (nomark _)) (nomark _)) (pss_one (ps_ret pe_bl)) pss_nil)
      (pss_one (ps_if (PW.pt (pw_or (pt_cmpR (op_eqOwn OEA.e_at OEA.e_fn OEA.ok OEA.b (hr.mono (by decide))) (pv 3) (pe_callTy call_tuple_of (by rfl) T.tuple_ (by decide +kernel) (pa_cons (pv 2) pa_nil)) (nomark _)) (pw_or (pt_not (pt_cmpR (op_neOwn OEA.n_at OEA.n_sub OEA.e_at OEA.e_fn OEA.ok OEA.b (hr.mono (by decide))) (pv 3) (pv 6) (nomark _))) (pw_or1 (pt_cmpR (op_inOwnL OEA.e_at OEA.e_fn OEA.ok OEA.b OEA.s1 OEA.s2 (hr.mono (by decide))) (pv 3) (pe_lst (pa_cons pe_non (pa_cons pe_int pa_nil))) (by rfl)))))) (pss_one (ps_ret pe_bl)) pss_nil))))))))))))))))
      (pss_one (ps_ret pe_bl))), ?_⟩
    refine ⟨4, rfl, by decide, by decide, ?_⟩
    refine for_range (lo := 0) (n := Int.toNat 4) (fun i σ H' => (∃ v1 v2 v3 v4 v5 v6 v7 v8 v9 va vb, σ = [some (.ref c), v1, v2, v3, v4, v5, v6, v7, v8, v9, va, vb]) ∧ But c H H' ∧ CupAt c H') ⟨⟨none, none, none, none, none, none, none, none, none, none, none, rfl⟩, But.refl _ _, hc⟩ ?_ ?_
    · rintro i σ H1 hi ⟨⟨v1, v2, v3, v4, v5, v6, v7, v8, v9, va, vb, rfl⟩, b1, hc1⟩
      refine ⟨fun σ' H' => ∃ a r, σ' = [some (.ref c), some (.int (0 + i)), some (.ref a), v3, v4, v5, v6, v7, v8, v9, va, vb] ∧ But c H H' ∧ CupAt c H' ∧ a ≠ c ∧ ShL H' a r ∧ Form 0 r ∧ Bnd r ∧ r.length ≤ 5, ?_, ?_⟩
      · refine ⟨_, rfl, c, rfl, hc1, fun H2 a r b2 hc2 na nac hA hF hB l5 => ?_⟩
        exact ⟨a, r, rfl, b1.trans b2, hc2, nac, hA, hF, hB, l5⟩
      rintro σ2 H2 ⟨a, r, rfl, b2, hc2, nac, hA, hF, hBd, l5⟩
      have hB := bnd_b hF hBd
      refine ⟨fun σ' H' => ∃ x, σ' = [some (.ref c), some (.int (0 + i)), some (.ref a), some (.ref x), v4, v5, v6, v7, v8, v9, va, vb] ∧ SitW C H c a x r H', ?_, ?_⟩
      · refine ⟨_, rfl, a, r, rfl, hA, hF, l5, fun H3 x s3 nx hX => ?_⟩
        exact ⟨x, rfl, b2.trans (But.of s3), hc2.same s3, nac, hA.same s3, hX⟩
      rintro σ3 H3 ⟨x, rfl, S3⟩
      clear b1 hc1 b2 hc2 hA H1 H2
      refine ⟨fun σ' H' => ∃ l q, σ' = [some (.ref c), some (.int (0 + i)), some (.ref a), some (.ref x), some (.ref l), v5, v6, v7, v8, v9, va, vb] ∧ SitW C H c a x r H' ∧ H' l = some (.lst [.ref q, smV r, .bl (enB r), .bl (!r.isEmpty), .str (wT r), .str (rT r)]) ∧ ShT H' q r, ?_, ?_⟩
      · obtain ⟨dx, q, hx, hq⟩ := id S3.X
        refine ⟨_, rfl, x, dx, _, rfl, hx, x, dx, q, rfl, hx, _, rfl, x, dx, _, rfl, hx, x, r, rfl, S3.X, _, rfl, x, dx, _, rfl, hx, x, r, rfl, S3.X, _, rfl, x, dx, _, rfl, hx, x, r, rfl, S3.X, _, rfl, ?_⟩
        refine ⟨_, rfl, x, dx, _, rfl, hx, x, r, rfl, S3.X, hB, l5, fun H4 s4 => ⟨_, rfl, ?_⟩⟩
        have S4 := S3.same s4
        refine ⟨_, rfl, x, dx, _, rfl, s4 _ _ hx, x, r, rfl, S4.X, hB, l5, fun H5 s5 => ⟨_, rfl, ?_⟩⟩
        refine ⟨(by show 6 ≤ sizeLine; decide), fun l nl => ?_⟩
        have s6 := same_upd (o := .lst [.ref q, smV r, .bl (enB r), .bl (!r.isEmpty), .str (wT r), .str (rT r)]) nl
        exact ⟨l, q, rfl, (S4.same s5).same s6, upd_same, hq.same ((s4.trans s5).trans s6)⟩
      rintro σ4 H4 ⟨l, q, rfl, S4, hl, hq⟩
      clear S3 H3
      refine ⟨fun σ' H' => ∃ d q2, σ' = [some (.ref c), some (.int (0 + i)), some (.ref a), some (.ref x), some (.ref l), some (.ref d), v6, v7, v8, v9, va, vb] ∧ SitW C H c a x r H' ∧ H' l = some (.lst [.ref q, smV r, .bl (enB r), .bl (!r.isEmpty), .str (wT r), .str (rT r)]) ∧ ShT H' q r ∧ H' d = some (.lst [.ref q2, smV r, .bl (enB r), .bl (!r.isEmpty)]) ∧ ShT H' q2 r, ?_, ?_⟩
      · obtain ⟨ws, ha, hw⟩ := id S4.A
        refine ⟨_, rfl, a, _, rfl, .inl ⟨SqL.of ha, fun q2 nq2 => ?_⟩⟩
        have s5 := same_upd (o := .tup ws) nq2
        have hq2 : ShT (upd H4 q2 (.tup ws)) q2 r := ⟨ws, upd_same, hw.same s5⟩
        generalize upd H4 q2 (.tup ws) = H5 at *
        have tst : ∀ {HX : Hp}, Same H4 HX → ∀ z, HX z = none → Dp K (upd HX z (.lst [])) (.ref a) (.list (rowD r)) := fun {HX} sx z nz => dp_shL (S4.A.same (sx.trans (same_upd nz)))
        cases r with
        | nil =>
          refine ⟨_, rfl, Nat.zero_le _, fun z1 nz1 => ?_⟩
          have s6 := same_upd (o := .lst []) nz1
          refine ⟨.list (rowD []), .list [], tst s5 z1 nz1, .lst (SqL.of upd_same) .nil, sh_rowL [], rfl, _, rfl, ite2 (fun e => absurd rfl (rowD_ne e)) (fun _ => ?_)⟩
          refine ⟨_, rfl, Nat.zero_le _, fun z2 nz2 => ?_⟩
          have s7 := same_upd (o := .lst []) nz2
          refine ⟨.list (rowD []), .list [], tst (s5.trans s6) z2 nz2, .lst (SqL.of upd_same) .nil, sh_rowL [], rfl, _, rfl, ite2 (fun e => absurd rfl (rowD_ne e)) (fun _ => ?_)⟩
          refine ⟨_, rfl, Nat.zero_le _, fun z3 nz3 => ?_⟩
          have s8 := same_upd (o := .lst []) nz3
          refine ⟨.list (rowD []), .list [], tst ((s5.trans s6).trans s7) z3 nz3, .lst (SqL.of upd_same) .nil, sh_rowL [], rfl, (by show 4 ≤ sizeLine; decide), fun d nd => ?_⟩
          have s9 := same_upd (o := .lst [.ref q2, .non, .bl false, .bl false]) nd
          have s69 := ((s6.trans s7).trans s8).trans s9
          exact ⟨d, q2, rfl, S4.same (s5.trans s69), s69 _ _ (s5 _ _ hl), (hq.same s5).same s69, upd_same, hq2.same s69⟩
        | cons s0 r1 =>
          obtain ⟨r0, s1, er⟩ : ∃ r0 s1, s0 :: r1 = r0 ++ [s1] := by
            rcases List.eq_nil_or_concat (s0 :: r1) with z | ⟨r0, s1, z⟩
            · cases z
            · exact ⟨r0, s1, by rw [z, List.concat_eq_append]⟩
          have en : enB (s0 :: r1) = s1.2.isNone := by rw [er, enB_snoc]
          obtain ⟨t0, ht0, h0⟩ : ∃ t0, H4 t0 = some (.tup [.int s0.1, eV s0.2]) ∧ ws[0]? = some (.ref t0) := by
            cases hw with
            | cons z _ =>
              obtain ⟨t0, rfl, ht0⟩ := z
              exact ⟨t0, ht0, rfl⟩
          have hw' : Shs H4 ws (r0 ++ [s1]) := by rw [← er]; exact hw
          obtain ⟨ws0, vl, rfl, _, tl, rfl, htl⟩ := hw'.snoc_inv
          refine ⟨_, rfl, Nat.zero_le _, fun z1 nz1 => ?_⟩
          have s6 := same_upd (o := .lst []) nz1
          have s56 := s5.trans s6
          refine ⟨.list (rowD (s0 :: r1)), .list [], tst s5 z1 nz1, .lst (SqL.of upd_same) .nil, sh_rowL _, rfl, _, rfl, ite2 (fun e => ?_) (fun e => absurd (rowD_nil e) (by simp))⟩
          refine ⟨_, rfl, a, _, _, _, rfl, rfl, SqL.of (s56 _ _ ha), atI_nat (j := 0) h0, t0, _, _, _, rfl, rfl, SqT.of (s56 _ _ ht0), atI_nat (j := 0) rfl, ?_⟩
          refine ⟨_, rfl, Nat.zero_le _, fun z2 nz2 => ?_⟩
          have s7 := same_upd (o := .lst []) nz2
          have s57 := s56.trans s7
          refine ⟨.list (rowD (s0 :: r1)), .list [], tst s56 z2 nz2, .lst (SqL.of upd_same) .nil, sh_rowL _, rfl, _, rfl, ite2 (fun e => ?_) (fun e => absurd (rowD_nil e) (by simp))⟩
          refine ⟨_, rfl, _, rfl, a, _, _, _, rfl, rfl, SqL.of (s57 _ _ ha), atI_last _ _, tl, _, _, _, rfl, rfl, SqT.of (s57 _ _ htl), atI_nat (j := 1) rfl, ?_⟩
          have eb : (V.bl (decide (eV s1.2 = V.non))) = .bl (enB (s0 :: r1)) := by
            rw [en]
            obtain ⟨f1, l1⟩ := s1
            cases l1 <;> rfl
          refine ⟨rfl, ?_⟩
          rw [eb]
          refine ⟨_, rfl, Nat.zero_le _, fun z3 nz3 => ?_⟩
          have s8 := same_upd (o := .lst []) nz3
          refine ⟨.list (rowD (s0 :: r1)), .list [], tst s57 z3 nz3, .lst (SqL.of upd_same) .nil, sh_rowL _, rfl, (by show 4 ≤ sizeLine; decide), fun d nd => ?_⟩
          rw [row_emp]
          have s9 := same_upd (o := .lst [.ref q2, .int s0.1, .bl (enB (s0 :: r1)), .bl (!(s0 :: r1).isEmpty)]) nd
          have s69 := ((s6.trans s7).trans s8).trans s9
          exact ⟨d, q2, rfl, S4.same (s5.trans s69), s69 _ _ (s5 _ _ hl), (hq.same s5).same s69, upd_same, hq2.same s69⟩
      rintro σ5 H5 ⟨d, q2, rfl, S5, hl5, hq5, hd5, hq25⟩
      clear S4 hl hq H4
      refine ⟨fun σ' H' => σ' = [some (.ref c), some (.int (0 + i)), some (.ref a), some (.ref x), some (.ref l), some (.ref d), some (.str (wT r)), v7, v8, v9, va, vb] ∧ SitW C H c a x r H' ∧ H' l = some (.lst [.ref q, smV r, .bl (enB r), .bl (!r.isEmpty), .str (wT r), .str (rT r)]) ∧ ShT H' q r ∧ H' d = some (.lst [.ref q2, smV r, .bl (enB r), .bl (!r.isEmpty)]) ∧ ShT H' q2 r, ?_, ?_⟩
      · refine ⟨_, rfl, a, r, rfl, S5.A, hB, l5, fun H6 s6 => ?_⟩
        exact ⟨rfl, S5.same s6, s6 _ _ hl5, hq5.same s6, s6 _ _ hd5, hq25.same s6⟩
      rintro σ6 H6 ⟨rfl, S6, hl6, hq6, hd6, hq26⟩
      clear S5 hl5 hq5 hd5 hq25 H5
      have Sh := shows_told hB l5
      have wOk := wT_ok hB l5
      refine ⟨fun σ' H' => σ' = [some (.ref c), some (.int (0 + i)), some (.ref a), some (.ref x), some (.ref l), some (.ref d), some (.str (wT r)), v7, v8, v9, va, vb] ∧ SitW C H c a x r H', ?_, ?_⟩
      · refine ⟨_, rfl, l, toldW r, rfl, dp_told hl6 hq6, Sh.s, Sh.n, Sh.p, Sh.l, ?_⟩
        have o1 := (OkT.of "Numbers(").app wOk
        refine ⟨_, rfl, _, rfl, _, rfl, _, _, rfl, rfl, fitsApp o1, _, _, rfl, rfl, fitsApp (o1.app (OkT.of ")")), (by show 2 ≤ sizeLine; decide), fun m nm => ?_⟩
        have s7 := same_upd (o := .lst [.str (wT r), .str (rT r)]) nm
        refine ⟨d, m, _, _, rfl, rfl, s7 _ _ hd6, upd_same, (by show 6 ≤ sizeLine; decide), fun p np => ?_⟩
        have s8 := same_upd (o := .lst ([.ref q2, smV r, .bl (enB r), .bl (!r.isEmpty)] ++ [.str (wT r), .str (rT r)])) np
        have s78 := s7.trans s8
        refine ⟨p, toldW r, rfl, dp_told upd_same (hq26.same s78), Sh.s, Sh.n, Sh.p, Sh.l, rfl, _, rfl, ite2 (fun z => absurd z (ne_selfV _)) (fun _ => ?_)⟩
        exact ⟨rfl, S6.same s78⟩
      rintro σ7 H7 ⟨rfl, S7⟩
      clear S6 hl6 hq6 hd6 hq26 H6
      -- what it holds
      refine ⟨fun σ' H' => σ' = [some (.ref c), some (.int (0 + i)), some (.ref a), some (.ref x), some (.ref l), some (.ref d), some (.str (wT r)), v7, v8, v9, va, vb] ∧ SitW C H c a x r H', ?_, ?_⟩
      · refine ⟨_, rfl, a, r, rfl, S7.A, l5, fun H8 z ns s8 nz hz hp l100 => ?_⟩
        have S8 := S7.same s8
        refine ⟨z, rfl, ⟨_, SqL.of hz⟩, fun D hD => ?_⟩
        refine lc_list (K := K) (a := z) (xs := ns.map V.int) (fun g H' => But D H8 H' ∧ H' D = some (.lst [])) ⟨But.upd, upd_same⟩ (fun g H' _ h => SqL.of (h.1 _ _ (ne_of_none hz hD) hz)) ?_ ?_
        · rintro g v H' hv ⟨bD, hDi⟩
          have sD : Same H8 H' := fun q o e => bD _ _ (ne_of_none e hD) e
          obtain ⟨n, rfl⟩ : ∃ n : Int, v = .int n := by
            rw [List.getElem?_map] at hv
            cases q : ns[g]? with
            | none =>
              rw [q] at hv
              cases hv
            | some u =>
              rw [q] at hv
              exact ⟨u, (Option.some.inj hv).symm⟩
          have S9 := S8.same sD
          obtain ⟨dx, qx, hx, _⟩ := id S9.X
          refine ⟨rfl, _, rfl, _, rfl, x, dx, _, rfl, hx, x, .int n, .int n, r, rfl, S9.X, .dp (.int n) rfl, by omega, fun H9 s9 => ⟨_, rfl, ?_⟩⟩
          have Sa := S9.same s9
          refine ⟨_, rfl, _, rfl, a, n, r, rfl, Sa.A, by omega, fun Ha sa => ?_⟩
          have s9a := s9.trans sa
          refine ⟨rfl, _, rfl, ite2 (fun z => absurd z (ne_selfV _)) (fun _ => ?_)⟩
          exact ⟨fun q o nq e => s9a _ _ (bD _ _ nq e), s9a _ _ hDi⟩
        · rintro Hb ⟨bD, hDn⟩
          have sD : Same H8 Hb := fun q o e => bD _ _ (ne_of_none e hD) e
          refine ⟨Nat.zero_le _, fun e5 ne5 => ?_⟩
          have s5 := same_upd (o := .lst []) ne5
          refine ⟨.list [], .list [], .lst (SqL.of (s5 _ _ hDn)) .nil, .lst (SqL.of upd_same) .nil, rfl, rfl, _, rfl, ite2 (fun e => absurd e (by decide)) (fun _ => ?_)⟩
          exact ⟨rfl, S8.same (sD.trans s5)⟩
      rintro σ8 H8 ⟨rfl, S8⟩
      clear S7 H7
      refine ⟨fun σ' H' => ∃ o vs, σ' = [some (.ref c), some (.int (0 + i)), some (.ref a), some (.ref x), some (.ref l), some (.ref d), some (.str (wT r)), v7, some (.ref o), v9, va, vb] ∧ SitW C H c a x r H' ∧ H' o = some (.lst vs) ∧ Drs H' vs oddL, ?_, ?_⟩
      · intro H9 v s9 hv
        obtain ⟨o, vs, rfl, ho, hvs⟩ := Dr.list (Dn.dr hv)
        exact ⟨o, vs, rfl, S8.same s9, ho, hvs⟩
      rintro σ9 H9 ⟨o, vs, rfl, S9, ho, hvs⟩
      clear S8 H8
      refine ⟨fun σ' H' => σ' = [some (.ref c), some (.int (0 + i)), some (.ref a), some (.ref x), some (.ref l), some (.ref d), some (.str (wT r)), v7, some (.ref o), v9, va, vb] ∧ SitW C H c a x r H', ?_, ?_⟩
      · refine ⟨_, rfl, o, rfl, ⟨_, SqL.of ho⟩, fun D hD => ?_⟩
        refine lc_list (K := K) (a := o) (xs := vs) (fun g H' => But D H9 H' ∧ H' D = some (.lst [])) ⟨But.upd, upd_same⟩ (fun g H' _ h => SqL.of (h.1 _ _ (ne_of_none ho hD) ho)) ?_ ?_
        · rintro g v H' hv ⟨bD, hDi⟩
          have sD : Same H9 H' := fun q o e => bD _ _ (ne_of_none e hD) e
          obtain ⟨dd, hdd, hdr⟩ := hvs.atv hv
          obtain ⟨nd, od⟩ := odd_of (List.all_eq_true.mp (show oddL.all oddB = true by decide +kernel) dd (List.mem_of_getElem? hdd))
          have Sa := S9.same sD
          obtain ⟨dx, qx, hx, _⟩ := id Sa.X
          refine ⟨rfl, _, rfl, _, rfl, x, dx, _, rfl, hx, x, v, dd, r, rfl, Sa.X, (hdr.mono sD).dq nd, by omega, fun Ha sa => ⟨_, rfl, ?_⟩⟩
          rw [cont_odd hF od]
          exact ⟨_, rfl, iteF ⟨fun q o nq e => sa _ _ (bD _ _ nq e), sa _ _ hDi⟩⟩
        · rintro Hb ⟨bD, hDn⟩
          have sD : Same H9 Hb := fun q o e => bD _ _ (ne_of_none e hD) e
          refine ⟨Nat.zero_le _, fun e5 ne5 => ?_⟩
          have s5 := same_upd (o := .lst []) ne5
          refine ⟨.list [], .list [], .lst (SqL.of (s5 _ _ hDn)) .nil, .lst (SqL.of upd_same) .nil, rfl, rfl, _, rfl, ite2 (fun e => absurd e (by decide)) (fun _ => ?_)⟩
          exact ⟨rfl, S9.same (sD.trans s5)⟩
      rintro σA HA ⟨rfl, SA⟩
      clear S9 H9 ho hvs
      -- the first numbers
      refine ⟨fun σ' H' => ∃ u5 ua, σ' = [some (.ref c), some (.int (0 + i)), some (.ref a), some (.ref x), some (.ref l), u5, some (.str (wT r)), v7, some (.ref o), v9, ua, vb] ∧ SitW C H c a x r H', ?_, ?_⟩
      · refine ⟨_, rfl, c, 12, rfl, SA.cup, by decide, (by unfold Sm; decide), fun HB w bB hcB w0 w1 => ?_⟩
        have SB := SA.step bB hcB
        refine ⟨(by show 4 ≤ sizeLine; decide), fun m nm => ?_⟩
        have sm := same_upd (o := .lst [.int 0, .int 1, .int w, .int 100]) nm
        have SC := SB.same sm
        have hm0 : (upd HB m (.lst [.int 0, .int 1, .int w, .int 100])) m = some (.lst [.int 0, .int 1, .int w, .int 100]) := upd_same
        generalize upd HB m (.lst [.int 0, .int 1, .int w, .int 100]) = HC at *
        refine ⟨m, rfl, ⟨_, SqL.of hm0⟩, ?_⟩
        refine for_list (K := K) (a := m) (xs := [.int 0, .int 1, .int w, .int 100]) (fun g σ H' => (∃ u5 ua, σ = [some (.ref c), some (.int (0 + i)), some (.ref a), some (.ref x), some (.ref l), u5, some (.str (wT r)), v7, some (.ref o), v9, ua, vb]) ∧ SitW C H c a x r H' ∧ H' m = some (.lst [.int 0, .int 1, .int w, .int 100])) ⟨⟨_, _, rfl⟩, SC, hm0⟩ (fun g σ H' _ h => SqL.of h.2.2) ?_ ?_
        · rintro g v σ HD hv ⟨⟨u5, ua, rfl⟩, SD, hmD⟩
          obtain ⟨n, rfl, n100⟩ : ∃ n : Nat, v = .int (n : Int) ∧ n ≤ 100 := by
            match g, hv with
            | 0, hv => cases hv; exact ⟨0, rfl, by decide⟩
            | 1, hv => cases hv; exact ⟨1, rfl, by decide⟩
            | 2, hv => cases hv; exact ⟨w.toNat, by rw [Int.toNat_of_nonneg w0], by omega⟩
            | 3, hv => cases hv; exact ⟨100, rfl, by decide⟩
          refine ⟨_, rfl, _, rfl, a, n, r, rfl, SD.A, hF, n100, fun HE z sE nz hz => ?_⟩
          have SE := SD.same sE
          obtain ⟨dx, qx, hx, _⟩ := id SE.X
          have same : ∀ e : Bool, e = PyData.eqv (.list ((firstF r n).map PyData.int)) (.list ((firstF r n).map PyData.int)) → e = true := fun e h => by rw [h]; exact SeqAt.eqv_refl _ (SeqAt.canLay_of_shaped (sh_il _))
          refine ⟨_, rfl, x, dx, _, rfl, hx, lkAs _, _, rfl, x, n, r, rfl, SE.X, hF, n100, fun HF sF => fun p np => ?_⟩
          have sp := same_upd (o := .lst ((firstF r n).map V.int)) np
          have sFp := sF.trans sp
          refine ⟨_, rfl, .list ((firstF r n).map PyData.int), .list ((firstF r n).map PyData.int), .lst (SqL.of upd_same) (dp_il _), .lst (SqL.of (sFp _ _ hz)) (dp_il _), sh_il _, sh_il _, _, rfl, ?_⟩
          rw [same _ rfl]
          refine iteF ?_
          refine ⟨_, rfl, x, dx, _, rfl, sFp _ _ hx, lkAs _, _, rfl, _, rfl, x, n, r, rfl, SE.X.same sFp, hF, n100, fun HG sG => fun p2 np2 => ?_⟩
          have sp2 := same_upd (o := .lst ((firstF r n).map V.int)) np2
          have sG2 := sFp.trans (sG.trans sp2)
          refine ⟨_, rfl, .list ((firstF r n).map PyData.int), .list ((firstF r n).map PyData.int), .lst (SqL.of upd_same) (dp_il _), .lst (SqL.of (sG2 _ _ hz)) (dp_il _), sh_il _, sh_il _, _, rfl, ?_⟩
          rw [same _ rfl]
          refine iteF ?_
          exact ⟨⟨_, _, rfl⟩, SE.same sG2, sG2 _ _ (sE _ _ hmD)⟩
        · rintro σ HD ⟨⟨u5, ua, rfl⟩, SD, hmD⟩
          exact ⟨u5, ua, rfl, SD⟩
      rintro σB HB ⟨u5, ua, rfl, SB⟩
      clear SA HA
      refine ⟨fun σ' H' => ∃ y r', σ' = [some (.ref c), some (.int (0 + i)), some (.ref a), some (.ref x), some (.ref l), u5, some (.str (wT r)), v7, some (.ref o), v9, ua, some (.ref y)] ∧ SitW C H c a x r H' ∧ NumAt C H' y r', ?_, ?_⟩
      · refine ⟨_, rfl, c, rfl, SB.cup, fun HC b r' bC hcC nb nbc hBC hFC hBdC l5C => ?_⟩
        have SC := SB.step bC hcC
        refine ⟨b, r', rfl, hBC, hFC, l5C, fun HD y sD ny hY => ?_⟩
        exact ⟨y, r', rfl, SC.same sD, hY⟩
      rintro σC HC ⟨y, r', rfl, SC, hY0⟩
      clear SB HB
      have eqr : ∀ r1 r2 : List RL.Sh, PyData.eqv (.tuple (rowD r1)) (.tuple (rowD r2)) = decide (r1 = r2) := fun r1 r2 => by
        rw [← eqv_rows]
        simp [PyData.eqv]
      refine ⟨fun σ' H' => σ' = [some (.ref c), some (.int (0 + i)), some (.ref a), some (.ref x), some (.ref l), u5, some (.str (wT r)), v7, some (.ref o), v9, ua, some (.ref y)] ∧ SitW C H c a x r H' ∧ NumAt C H' y r', ?_, ?_⟩
      · refine ⟨_, rfl, _, rfl, a, r, rfl, SC.A, hF, l5, fun HD z sD nz hz => ?_⟩
        have SD := SC.same sD
        obtain ⟨dx, qx, hx, _⟩ := id SD.X
        obtain ⟨dz, qz, hzz, _⟩ := id hz
        refine ⟨x, dx, _, _, rfl, hx, .base (.ins hzz T.cl I.ca I.cn I.ct I.cm), I.nf, x, z, r, r, rfl, SD.X, hz, _, rfl, ?_⟩
        rw [decide_eq_true rfl]
        refine iteF ?_
        refine ⟨_, rfl, _, rfl, a, r, rfl, SD.A, hF, l5, fun HE z2 sE nz2 hz2 => ?_⟩
        have SE := SD.same sE
        refine ne_goW T.cl I SE.X hz2 rfl ⟨_, rfl, iteF ?_⟩
        exact ⟨rfl, SE, hY0.same (sD.trans sE)⟩
      rintro σD HD ⟨rfl, SD, hY⟩
      clear SC hY0 HC
      refine ⟨fun σ' H' => σ' = [some (.ref c), some (.int (0 + i)), some (.ref a), some (.ref x), some (.ref l), u5, some (.str (wT r)), v7, some (.ref o), v9, ua, some (.ref y)] ∧ SitW C H c a x r H', ?_, ?_⟩
      · obtain ⟨dx, qx, hx, hqx⟩ := id SD.X
        obtain ⟨dy, qy, hy, hqy⟩ := id hY
        refine ⟨_, rfl, _, rfl, x, dx, _, _, rfl, hx, .base (.ins hy T.cl I.ca I.cn I.ct I.cm), I.nf, x, y, r, r', rfl, SD.X, hY, ?_⟩
        refine ⟨_, rfl, x, dx, _, rfl, hx, x, dx, qx, rfl, hx, _, rfl, y, dy, _, rfl, hy, y, dy, qy, rfl, hy, _, _, dp_shT hqx, dp_shT hqy, sh_rowT _, sh_rowT _, ?_⟩
        rw [eqr]
        exact ⟨rfl, _, rfl, ite2 (fun z => absurd z (ne_selfV _)) (fun _ => ⟨rfl, SD⟩)⟩
      rintro σE HE ⟨rfl, SE⟩
      clear SD HD hY
      obtain ⟨dx, qx, hx, _⟩ := id SE.X
      obtain ⟨ws, ha, hw⟩ := id SE.A
      refine ⟨_, rfl, _, rfl, a, _, rfl, .inl ⟨SqL.of ha, fun t nt => ?_⟩⟩
      have st := same_upd (o := .tup ws) nt
      refine ⟨x, dx, _, _, rfl, st _ _ hx, .base (.tup upd_same), OEA.nT, x, dx, _, _, _, rfl, st _ _ hx, .base (.tup upd_same), OEA.kT, false, rfl, iteF ?_⟩
      have SF := SE.same st
      generalize upd HE t (.tup ws) = HF at *
      have hx := st _ _ hx
      refine ⟨_, rfl, _, rfl, x, dx, _, _, rfl, hx, .base (.str _), OEA.nS, x, dx, _, _, _, rfl, hx, .base (.str _), OEA.kS, false, rfl, true, rfl, iteF ?_⟩
      refine ⟨_, rfl, (by show 2 ≤ sizeLine; decide), fun m nm => ?_⟩
      have sm := same_upd (o := .lst [.non, .int 0]) nm
      refine ⟨x, dx, _, m, _, rfl, rfl, sm _ _ hx, upd_same, ?_, ?_, fun H' e => ⟨false, rfl, iteF ?_⟩⟩
      · intro v hv
        simp only [List.mem_cons, List.not_mem_nil, or_false] at hv
        rcases hv with rfl | rfl
        · exact .inl rfl
        · exact .inr ⟨0, rfl⟩
      · intro v H' hv e
        rcases hv with rfl | ⟨j, rfl⟩
        · exact ⟨x, dx, _, _, _, rfl, e _ _ (sm _ _ hx), .base .non, OEA.kN, rfl, Ext.rfl'⟩
        · exact ⟨x, dx, _, _, _, rfl, e _ _ (sm _ _ hx), .base (.int j), OEA.kI, rfl, Ext.rfl'⟩
      · have e : Same _ _ := e
        have SG := (SF.same sm).same e
        exact ⟨⟨_, _, _, _, _, _, _, _, _, _, _, rfl⟩, SG.but, SG.cup⟩
    · rintro σ H1 ⟨⟨v1, v2, v3, v4, v5, v6, v7, v8, v9, va, vb, rfl⟩, b1, hc1⟩
      exact k _ b1
end
end RL

set_option maxHeartbeats 2000000
namespace RL
open PySem L2 PySem.Spec PyProof.Rows
def spLaw (K : PySem.W.Frag) : Sp := fun vs H Q _ => ∃ (a : Addr) (ns : List Int), vs = [.ref a] ∧ SqL K H a (ns.map V.int) ∧ ns.length ≤ 63 ∧ ∀ H', Q (.bl true) H'
theorem seq_but {K : PySem.W.Frag} {H H' : Hp} {D a : Addr} {xs : List V} (h : SqL K H a xs) (n : H D = none) (b : But D H H') : SqL K H' a xs := by
  rcases h with (h | ⟨o, h⟩) | h
  · exact .inl (.inl (b _ _ (ne_of_none h n) h))
  · exact .inl (.inr ⟨o, b _ _ (ne_of_none h n) h⟩)
  · exact .inr h
theorem smB {s : Sh} (h0 : 0 ≤ s.1) (h1 : s.1 ≤ 9) (h2 : ∀ l, s.2 = some l → 0 ≤ l ∧ l ≤ 9) : ShB s := by
  have k : ∀ z : Int, 0 ≤ z → z ≤ 9 → Sm 107 z := fun z a b => by
    have : Sm 4 z := by
      unfold Sm
      have e : (2 : Nat) ^ 4 = 16 := by decide
      omega
    exact this.mono (by decide)
  exact ⟨k _ h0 h1, fun l e => k _ (h2 l e).1 (h2 l e).2⟩
theorem small_rowB {r : List Sh} (h : r.all (fun s => decide (0 ≤ s.1) && decide (s.1 ≤ 9) && (match s.2 with | none => true | some l => decide (0 ≤ l) && decide (l ≤ 9))) = true) : ∀ s ∈ r, ShB s := fun s hs => by
  rw [List.all_eq_true] at h
  have := h s hs
  obtain ⟨f, l⟩ := s
  cases l with
  | none =>
    simp at this
    exact smB this.1 this.2 (fun l e => by cases e)
  | some l =>
    simp at this
    refine smB this.1.1 this.1.2 (fun k e => ?_)
    cases e
    exact this.2
theorem str_goB {C : Addr} {H : Hp} {x : Addr} {r : List Sh} {Q : VK} (hx : NumAt C H x r) (hs : ∀ s ∈ r, ShB s) (l2 : r.length ≤ 5) (k : ∀ H', Same H H' → Q (.str (wT r)) H') : rTextOwn C (spTx C wT) [.ref x] H Q := by
  obtain ⟨dx, q, h1, h2⟩ := id hx
  exact ⟨x, dx, _, rfl, h1, x, r, rfl, hx, hs, l2, fun H' s => ⟨_, rfl, k H' s⟩⟩
def lawD : PyData := .list [.str (Str.ofString "none"), .str (Str.ofString "3"), .str (Str.ofString "0 to 2, from 4"), .none, .bool true]
theorem sh_law : Shows lawD := ⟨by decide +kernel, by decide +kernel, by decide +kernel, by decide +kernel⟩
section
variable {P : Program} {w : World} {K : PySem.W.Frag} {mg : Str → Option Value} {base : Heap} {C fN pM gM gT gC : Addr} {fM fT fC : FuncData} {tC : Tok}
abbrev s_law : Stmt := top 30
theorem sc_law : FnScope ["_law_script", "_law_told", "_law_spot"] ["_law_script"] (defScope s_law) := ⟨rfl, rfl, rfl, by decide +kernel, rfl, by decide +kernel, by decide +kernel⟩

theorem ok_law {f : Addr} {fd : FuncData} (F : Fun K "law" "law" s_law f fd) (T : TxtO K mg tC C) (X_num : NumD P w K mg base C fN) (OSm : OwP P w K mg base C pM gM fM "smallest" (spSm C)) (OT : OwM P w K mg base C gT fT "__str__" 3 ["self"] (spTx C wT)) (OC : OwM P w K mg base C gC fC "__contains__" 2 ["self", "x"] (spContD K C))
    (D_law_cup : Df P w K mg base 1 "_law_cup" ["_law_script", "_law_spot"] (spCup K)) (D_law_right : DfG P w K mg base 9 "_law_right" ["_law_cup_here"] spRight) : FnG P w K mg base 10 f fd ["_law_script"] (spLaw K) := by
  refine okG F sc_law (fun vs H Q E h => ?_) (fun cdv A outer s H vs Q E hg hr h => ?_)
  · obtain ⟨a, ns, rfl, _⟩ := h
    rfl
  · obtain ⟨a, ns, rfl, hS, hlen, k⟩ := h
    refine ⟨_, (C8.pss_cut (ps_set (i := 1) sc_law.nd rfl (.inl rfl) (pe_lst (pa_cons (pe_callTy (cr_strOwn OT.at_ OT.fn OT.ok OT.b (hr.mono (by decide))) (by rfl) T.str_ (by decide +kernel) (pa_cons (pe_makeR0 X_num.m X_num.fn (hr.mono (by decide)) rfl T.mgC pass0) pa_nil)) (pa_cons (pe_callTy (cr_strOwn OT.at_ OT.fn OT.ok OT.b (hr.mono (by decide))) (by rfl) T.str_ (by decide +kernel) (pa_cons (StX.pe_makeR X_num.m X_num.fn (hr.mono (by decide)) rfl T.mgC pass0 (pa_cons (pe_tup (pa_cons pe_int (pa_cons pe_int pa_nil))) pa_nil)) pa_nil)) (pa_cons (pe_callTy (cr_strOwn OT.at_ OT.fn OT.ok OT.b (hr.mono (by decide))) (by rfl) T.str_ (by decide +kernel) (pa_cons (StX.pe_makeR X_num.m X_num.fn (hr.mono (by decide)) rfl T.mgC pass0 (pa_cons (pe_tup (pa_cons pe_int (pa_cons pe_int pa_nil))) (pa_cons (pe_tup (pa_cons pe_int (pa_cons pe_non pa_nil))) pa_nil))) pa_nil)) (pa_cons (pe_prop (pe_makeR0 X_num.m X_num.fn (hr.mono (by decide)) rfl T.mgC pass0) T.cl OSm.pr OSm.ok (hr.mono (by decide)) OSm.b .nil pass0 rfl) pa_nil))))))
      (C8.pss_cut (ps_expr (pe_bm PySem.F.plainAttrs_list PySem.F.slot_list_append PySem.F.type_list_append mt_append (pv 1) (pa_cons (pe_cmpR (op_inOwn OC.at_ OC.fn OC.ok OC.b (hr.mono (by decide))) pe_int (StX.pe_makeR X_num.m X_num.fn (hr.mono (by decide)) rfl T.mgC pass0 (pa_cons (pe_tup (pa_cons pe_int (pa_cons pe_non pa_nil))) pa_nil)) (by rfl)) pa_nil)))
      (C8.pss_cut (ps_if (pt_cmpR op_ne (pe_callB (cr_repr hg hr.units) (by rfl) T.repr (by decide +kernel) (pa_cons (pv 1) pa_nil)) (pe_callB (cr_repr hg hr.units) (by rfl) T.repr (by decide +kernel) (pa_cons (pd_lst (pds_cons pd_str (pds_cons pd_str (pds_cons pd_str (pds_cons pd_non (pds_cons pd_bl pds_nil)))))) pa_nil)) (nomark _)) (pss_one (ps_ret pe_bl)) pss_nil)
      (pss_one (ps_ret (pe_callB (cr_all rfl) (by rfl) T.all (by decide +kernel) (pa_cons (pe_lc (own := [("_law_spot", 2)]) (g := gName 2) (tt := tYes) rfl sc_law.nd (pi_range1 rfl T.range (pa_cons (pe_callB (call_max2 rfl) (by rfl) T.max (by decide +kernel) (pa_cons pe_int (pa_cons (pe_callB (call_min2 rfl) (by rfl) T.min (by decide +kernel) (pa_cons (pe_callB call_len_seq (by rfl) T.len (by decide +kernel) (pa_cons (pv 0) pa_nil)) (pa_cons pe_int pa_nil))) pa_nil))) pa_nil)) (blkOk_by (N := ["_law_script", "_law_told", "_law_spot"]) (sc := defScope s_law) (by decide +kernel)) (fun _ _ _ _ _ => pg_name (i := 2) sc_law.nd rfl (Or.inl rfl)) (fun _ _ _ _ _ => pts_nil) (fun _ _ _ _ _ => (pe_dfG D_law_right hg (hr.mono (by decide)) (by rfl) (pa_cons (pe_df D_law_cup (hr.mono (by decide)) (by rfl) (pa_cons (pv 0) (pa_cons (pv 2) pa_nil))) pa_nil)))) pa_nil))))))), ?_⟩
    have t1 : wT [(3, some 3)] = Str.ofString "3" := by decide +kernel
    have t2 : wT [(0, some 2), (4, none)] = Str.ofString "0 to 2, from 4" := by decide +kernel
    have f1 : Form 0 [((3 : Int), some (3 : Int))] := by simp [Form]
    have f2 : Form 0 [((0 : Int), some (2 : Int)), (4, none)] := by simp [Form]
    have f3 : Form 0 [((0 : Int), (none : Option Int))] := by simp [Form]
    refine ⟨fun σ' H' => ∃ l, σ' = [some (.ref a), some (.ref l), none] ∧ Same H H' ∧ H l = none ∧ H' l = some (.lst [.str (Str.ofString "none"), .str (Str.ofString "3"), .str (Str.ofString "0 to 2, from 4"), .non]), ?_, ?_⟩
    · intro x dx nx ndx nex
      refine make_num (r := []) nx ndx .nil trivial (by decide) fun H1 s1 h1 => ?_
      refine str_goB h1 (fun s z => nomatch z) (by decide) fun H2 s2 => ?_
      have q2 := s1.trans s2
      refine ⟨(by show 2 ≤ sizeLine; decide), fun p0 np0 => ?_⟩
      have s3 := same_upd (o := .tup [.int 3, .int 3]) np0
      intro y dy ny ndy ney
      refine make_num (r := [(3, some 3)]) ny ndy (.cons ⟨p0, rfl, upd_same⟩ .nil) f1 (by decide) fun H4 s4 h4 => ?_
      refine str_goB h4 (small_rowB (by decide +kernel)) (by decide) fun H5 s5 => ?_
      have q5 := ((q2.trans s3).trans s4).trans s5
      rw [t1]
      refine ⟨(by show 2 ≤ sizeLine; decide), fun p1 np1 => ⟨(by show 2 ≤ sizeLine; decide), fun p2 np2 => ?_⟩⟩
      have s6 := same_upd (o := .tup [.int 0, .int 2]) np1
      have s7 := same_upd (o := .tup [.int 4, .non]) np2
      intro z dz nz ndz nez
      refine make_num (r := [(0, some 2), (4, none)]) nz ndz (.cons ⟨p1, rfl, s7 _ _ upd_same⟩ (.cons ⟨p2, rfl, upd_same⟩ .nil)) f2 (by decide) fun H8 s8 h8 => ?_
      refine str_goB h8 (small_rowB (by decide +kernel)) (by decide) fun H9 s9 => ?_
      have q9 := (((q5.trans s6).trans s7).trans s8).trans s9
      rw [t2]
      intro u du nu ndu neu
      refine make_num (r := []) nu ndu .nil trivial (by decide) fun Ha sa ha => ?_
      obtain ⟨dd, qq, g1, g2⟩ := id ha
      have qa := q9.trans sa
      refine ⟨u, dd, _, rfl, g1, u, [], rfl, ha, (by show 4 ≤ sizeLine; decide), fun l nl => ?_⟩
      exact ⟨l, rfl, qa.trans (same_upd nl), qa.free nl, upd_same⟩
    rintro σ1 H1 ⟨l, rfl, s1, nl, hl⟩
    refine ⟨fun σ' H' => ∃ l, σ' = [some (.ref a), some (.ref l), none] ∧ But l H H' ∧ H l = none ∧ H' l = some (.lst [.str (Str.ofString "none"), .str (Str.ofString "3"), .str (Str.ofString "0 to 2, from 4"), .non, .bl true]), ?_, ?_⟩
    · refine ⟨_, rfl, .inl ⟨rfl, _, SqL.of hl⟩, (by show 2 ≤ sizeLine; decide), fun p0 np0 => ?_⟩
      have s2 := same_upd (o := .tup [.int 0, .non]) np0
      intro y dy ny ndy ney
      refine make_num (r := [(0, none)]) ny ndy (.cons ⟨p0, rfl, upd_same⟩ .nil) f3 (by decide) fun H3 s3 hy => ?_
      have q3 := s2.trans s3
      obtain ⟨dd, qq, g1, g2⟩ := id hy
      refine ⟨y, dd, _, rfl, g1, y, .int 7, .int 7, [(0, none)], rfl, hy, .dp (.int 7) rfl, by decide, fun H4 s4 => ⟨_, rfl, ?_⟩⟩
      have q4 := q3.trans s4
      have e : contD [(0, none)] (.int 7) = true := by decide +kernel
      rw [e]
      exact ⟨l, _, _, rfl, rfl, q4 _ _ hl, small1000 (by show 4 ≤ 1000; decide), l, rfl, (But.of (s1.trans q4)).trans But.upd, nl, upd_same⟩
    rintro σ2 H2 ⟨l, rfl, b2, nl, hl2⟩
    refine ⟨fun σ' H' => σ' = [some (.ref a), some (.ref l), none] ∧ Same H2 H', ?_, ?_⟩
    · refine ⟨_, rfl, l, lawD, rfl, .lst (SqL.of hl2) (.cons (.str _) (.cons (.str _) (.cons (.str _) (.cons .non (.cons (.bl true) .nil))))), sh_law.s, sh_law.n, sh_law.p, sh_law.l, ?_⟩
      intro H3 v s3 hv
      obtain ⟨o, vs, rfl, ho, hvs⟩ := Dr.list (Dn.dr hv)
      refine ⟨o, lawD, rfl, (Dn.dr hv).dp (by decide +kernel), sh_law.s, sh_law.n, sh_law.p, sh_law.l, rfl, _, rfl, ite2 (fun z => absurd z (ne_selfV _)) (fun _ => ?_)⟩
      exact ⟨rfl, s3⟩
    rintro σ3 H3 ⟨rfl, s3⟩
    have hSg := s3.seq (seq_but hS nl b2)
    refine ⟨_, rfl, a, _, rfl, .inl hSg, _, _, rfl, _, _, rfl, _, rfl, ?_, ?_, fun D hD => ?_⟩
    · split <;> split <;> omega
    · have : (List.map V.int ns).length = ns.length := List.length_map ..
      split <;> split <;> omega
    · refine lc_range (lo := 0) (fun i H' => But D _ H' ∧ H' D = some (.lst (List.replicate i (.bl true)))) ⟨But.upd, upd_same⟩ ?_ ?_
      · rintro i H1' hi ⟨bD, hDi⟩
        have hi63 : i ≤ 100 := by
          have : (List.map V.int ns).length = ns.length := List.length_map ..
          split at hi <;> split at hi <;> omega
        refine ⟨rfl, ?_⟩
        unfold tYes
        refine iteT ?_
        refine ⟨_, rfl, _, rfl, a, ns, i, ?_, seq_but hSg hD bD, hi63, hlen, fun H2' c sc nc hc => ?_⟩
        · show [V.ref a, V.int (0 + (i : Int))] = _
          rw [Int.zero_add]
        refine ⟨c, rfl, hc, fun H3' b3 => ?_⟩
        have nDc : D ≠ c := ne_of_none hDi nc
        refine ⟨_, b3 _ _ nDc (sc _ _ hDi), ?_, ?_, ?_⟩
        · rw [List.length_replicate]
          exact small1000 (by omega)
        · intro y o ny e
          rw [upd_ne ny]
          have hy1 := bD _ _ ny e
          exact b3 _ _ (ne_of_none hy1 nc) (sc _ _ hy1)
        · rw [upd_same, List.replicate_succ']
      · rintro H1' ⟨bD, hDn⟩
        refine ⟨D, List.replicate _ true, rfl, SqL.of (by rw [List.map_replicate]; exact hDn), ?_⟩
        have ea : ∀ n : Nat, (List.replicate n true).all id = true := fun n => by
          rw [List.all_eq_true]
          intro z hz
          rw [List.eq_of_mem_replicate hz]
          rfl
        rw [ea]
        exact k _
end
end RL

namespace RL
open PySem L2
set_option maxHeartbeats 4000000 in
theorem all_mk {l : PySem.W.OpenLaw} {w : World} {K : PySem.W.Frag} {h : Heap} {mg : Str → Option Value} (X : K.In h) (G : h.Ns mainGlobals mg) {fa C f_Numbers_init f_Numbers_contains f_Numbers_eq f_Numbers_bool f_Numbers_str f_Numbers_repr f_Numbers_stretches pr_Numbers_stretches f_Numbers_smallest pr_Numbers_smallest f_Numbers_endless pr_Numbers_endless f_Numbers_ascending f_is_integer f_is_integer_within f_is_count f_is_stretch f_least_first_behind f_lies_within f_stretch_text f_stretches_text f_law_cup f_law_sip f_law_pick f_law_cuts f_law_holds f_law_cut_words f_law_edges f_law_set f_law_first f_law_right f_law : Addr}
    {od_Numbers_init an_Numbers_init od_Numbers_contains an_Numbers_contains od_Numbers_eq an_Numbers_eq od_Numbers_bool an_Numbers_bool od_Numbers_str an_Numbers_str od_Numbers_repr an_Numbers_repr od_Numbers_stretches an_Numbers_stretches od_Numbers_smallest an_Numbers_smallest od_Numbers_endless an_Numbers_endless od_Numbers_ascending an_Numbers_ascending od_is_integer an_is_integer od_is_integer_within an_is_integer_within od_is_count an_is_count od_is_stretch an_is_stretch od_least_first_behind an_least_first_behind od_lies_within an_lies_within od_stretch_text an_stretch_text od_stretches_text an_stretches_text od_law_cup an_law_cup od_law_sip an_law_sip od_law_pick an_law_pick od_law_cuts an_law_cuts od_law_holds an_law_holds od_law_cut_words an_law_cut_words od_law_edges an_law_edges od_law_set an_law_set od_law_first an_law_first od_law_right an_law_right od_law an_law : Option Addr} {sl_Numbers_init sl_Numbers_contains sl_Numbers_eq sl_Numbers_bool sl_Numbers_str sl_Numbers_repr sl_Numbers_stretches sl_Numbers_smallest sl_Numbers_endless sl_Numbers_ascending sl_is_integer sl_is_integer_within sl_is_count sl_is_stretch sl_least_first_behind sl_lies_within sl_stretch_text sl_stretches_text sl_law_cup sl_law_sip sl_law_pick sl_law_cuts sl_law_holds sl_law_cut_words sl_law_edges sl_law_set sl_law_first sl_law_right sl_law : Array (Option Value)}
    {oc_Numbers_init kV_Numbers_init dc_Numbers_init pm_Numbers_init cd_Numbers_init ct_Numbers_init oc_Numbers_contains kV_Numbers_contains dc_Numbers_contains pm_Numbers_contains cd_Numbers_contains ct_Numbers_contains oc_Numbers_eq kV_Numbers_eq dc_Numbers_eq pm_Numbers_eq cd_Numbers_eq ct_Numbers_eq oc_Numbers_bool kV_Numbers_bool dc_Numbers_bool pm_Numbers_bool cd_Numbers_bool ct_Numbers_bool oc_Numbers_str kV_Numbers_str dc_Numbers_str pm_Numbers_str cd_Numbers_str ct_Numbers_str oc_Numbers_repr kV_Numbers_repr dc_Numbers_repr pm_Numbers_repr cd_Numbers_repr ct_Numbers_repr oc_Numbers_stretches kV_Numbers_stretches dc_Numbers_stretches pm_Numbers_stretches cd_Numbers_stretches ct_Numbers_stretches oc_Numbers_smallest kV_Numbers_smallest dc_Numbers_smallest pm_Numbers_smallest cd_Numbers_smallest ct_Numbers_smallest oc_Numbers_endless kV_Numbers_endless dc_Numbers_endless pm_Numbers_endless cd_Numbers_endless ct_Numbers_endless oc_Numbers_ascending kV_Numbers_ascending dc_Numbers_ascending pm_Numbers_ascending cd_Numbers_ascending ct_Numbers_ascending oc_is_integer kV_is_integer dc_is_integer pm_is_integer cd_is_integer ct_is_integer oc_is_integer_within kV_is_integer_within dc_is_integer_within pm_is_integer_within cd_is_integer_within ct_is_integer_within oc_is_count kV_is_count dc_is_count pm_is_count cd_is_count ct_is_count oc_is_stretch kV_is_stretch dc_is_stretch pm_is_stretch cd_is_stretch ct_is_stretch oc_least_first_behind kV_least_first_behind dc_least_first_behind pm_least_first_behind cd_least_first_behind ct_least_first_behind oc_lies_within kV_lies_within dc_lies_within pm_lies_within cd_lies_within ct_lies_within oc_stretch_text kV_stretch_text dc_stretch_text pm_stretch_text cd_stretch_text ct_stretch_text oc_stretches_text kV_stretches_text dc_stretches_text pm_stretches_text cd_stretches_text ct_stretches_text oc_law_cup kV_law_cup dc_law_cup pm_law_cup cd_law_cup ct_law_cup oc_law_sip kV_law_sip dc_law_sip pm_law_sip cd_law_sip ct_law_sip oc_law_pick kV_law_pick dc_law_pick pm_law_pick cd_law_pick ct_law_pick oc_law_cuts kV_law_cuts dc_law_cuts pm_law_cuts cd_law_cuts ct_law_cuts oc_law_holds kV_law_holds dc_law_holds pm_law_holds cd_law_holds ct_law_holds oc_law_cut_words kV_law_cut_words dc_law_cut_words pm_law_cut_words cd_law_cut_words ct_law_cut_words oc_law_edges kV_law_edges dc_law_edges pm_law_edges cd_law_edges ct_law_edges oc_law_set kV_law_set dc_law_set pm_law_set cd_law_set ct_law_set oc_law_first kV_law_first dc_law_first pm_law_first cd_law_first ct_law_first oc_law_right kV_law_right dc_law_right pm_law_right cd_law_right ct_law_right oc_law kV_law dc_law pm_law cd_law ct_law : Value} {tC : Tok} {rest_Numbers_stretches : List Value} {rest_Numbers_smallest : List Value} {rest_Numbers_endless : List Value} (hfa : mg "law" = some (.ref fa))
    (aC : PySem.W.nsIn K mainGlobals "Numbers" = some (some (.ref C)))
    (pgC : PySem.W.plainGet K C Str.empty = true)
    (hdC : PySem.W.hasDictIn K C = true)
    (poC : PySem.W.plainOver K C = true)
    (saC : PySem.W.findIn K (.ref C) "__setattr__" = some (some (.builtin "object.__setattr__")))
    (mkC : PySem.W.makesIn K C = true)
    (kcC : PySem.W.keepIn K (.ref C) = true)
    (nC_held : PySem.W.findIn K (.ref C) "held" = some none)
    (caC : PySem.W.findIn K (.ref C) "__class__" = some (some (.builtin "object.__class__")))
    (cmC : PySem.W.mroIn K C (.type "object") = some true)
    (cn : PySem.W.specialIn K (.builtin "object.__class__") "__get__" = some (some (.builtin "getset_descriptor.__get__")))
    (ct : PySem.W.takesIn K (.builtin "object.__class__") = some true)
    (aMS : PySem.W.nsIn K mainGlobals "MOST_SECTIONS" = some (some (.int 100 tC)))
    (n_at : PySem.W.findIn K (.ref C) "__ne__" = some (some (.builtin "object.__ne__")))
    (n_sub : PySem.W.subIn K (.ref C) (.type "object") = some true)
    (sb_N : PySem.W.subIn K (.ref C) (.type "NoneType") = some false)
    (sb_I : PySem.W.subIn K (.ref C) (.type "int") = some false)
    (kt_N : PySem.W.kitOne K (.type "NoneType") (.ref C) = some false)
    (kt_I : PySem.W.kitOne K (.type "int") (.ref C) = some false)
    (kt_S : PySem.W.kitOne K (.type "str") (.ref C) = some false)
    (kt_T : PySem.W.kitOne K (.type "tuple") (.ref C) = some false)
    (nf_S : PySem.W.notFirst K C (.type "str") = true)
    (nf_T : PySem.W.notFirst K C (.type "tuple") = true)
    (a_Numbers_init : PySem.W.findIn K (.ref C) "__init__" = some (some (.ref f_Numbers_init)))
    (i_Numbers_init : PySem.W.isFn K (.ref f_Numbers_init) = true)
    (l_Numbers_init : K.lookup f_Numbers_init = some ⟨oc_Numbers_init, od_Numbers_init, .func (PySem.W.fnOf "__init__" "Numbers.__init__" (defArgs s_Numbers_init) (defBody s_Numbers_init) (defScope s_Numbers_init) .none kV_Numbers_init dc_Numbers_init pm_Numbers_init an_Numbers_init cd_Numbers_init ct_Numbers_init), sl_Numbers_init⟩)
    (c_Numbers_init : PySem.W.codeIn K cd_Numbers_init "Numbers.__init__" = true)
    (k_Numbers_init : PySem.W.keepIn K (.ref f_Numbers_init) = true)
    (a_Numbers_contains : PySem.W.findIn K (.ref C) "__contains__" = some (some (.ref f_Numbers_contains)))
    (i_Numbers_contains : PySem.W.isFn K (.ref f_Numbers_contains) = true)
    (l_Numbers_contains : K.lookup f_Numbers_contains = some ⟨oc_Numbers_contains, od_Numbers_contains, .func (PySem.W.fnOf "__contains__" "Numbers.__contains__" (defArgs s_Numbers_contains) (defBody s_Numbers_contains) (defScope s_Numbers_contains) .none kV_Numbers_contains dc_Numbers_contains pm_Numbers_contains an_Numbers_contains cd_Numbers_contains ct_Numbers_contains), sl_Numbers_contains⟩)
    (c_Numbers_contains : PySem.W.codeIn K cd_Numbers_contains "Numbers.__contains__" = true)
    (k_Numbers_contains : PySem.W.keepIn K (.ref f_Numbers_contains) = true)
    (a_Numbers_eq : PySem.W.findIn K (.ref C) "__eq__" = some (some (.ref f_Numbers_eq)))
    (i_Numbers_eq : PySem.W.isFn K (.ref f_Numbers_eq) = true)
    (l_Numbers_eq : K.lookup f_Numbers_eq = some ⟨oc_Numbers_eq, od_Numbers_eq, .func (PySem.W.fnOf "__eq__" "Numbers.__eq__" (defArgs s_Numbers_eq) (defBody s_Numbers_eq) (defScope s_Numbers_eq) .none kV_Numbers_eq dc_Numbers_eq pm_Numbers_eq an_Numbers_eq cd_Numbers_eq ct_Numbers_eq), sl_Numbers_eq⟩)
    (c_Numbers_eq : PySem.W.codeIn K cd_Numbers_eq "Numbers.__eq__" = true)
    (k_Numbers_eq : PySem.W.keepIn K (.ref f_Numbers_eq) = true)
    (a_Numbers_bool : PySem.W.findIn K (.ref C) "__bool__" = some (some (.ref f_Numbers_bool)))
    (i_Numbers_bool : PySem.W.isFn K (.ref f_Numbers_bool) = true)
    (l_Numbers_bool : K.lookup f_Numbers_bool = some ⟨oc_Numbers_bool, od_Numbers_bool, .func (PySem.W.fnOf "__bool__" "Numbers.__bool__" (defArgs s_Numbers_bool) (defBody s_Numbers_bool) (defScope s_Numbers_bool) .none kV_Numbers_bool dc_Numbers_bool pm_Numbers_bool an_Numbers_bool cd_Numbers_bool ct_Numbers_bool), sl_Numbers_bool⟩)
    (c_Numbers_bool : PySem.W.codeIn K cd_Numbers_bool "Numbers.__bool__" = true)
    (k_Numbers_bool : PySem.W.keepIn K (.ref f_Numbers_bool) = true)
    (a_Numbers_str : PySem.W.findIn K (.ref C) "__str__" = some (some (.ref f_Numbers_str)))
    (i_Numbers_str : PySem.W.isFn K (.ref f_Numbers_str) = true)
    (l_Numbers_str : K.lookup f_Numbers_str = some ⟨oc_Numbers_str, od_Numbers_str, .func (PySem.W.fnOf "__str__" "Numbers.__str__" (defArgs s_Numbers_str) (defBody s_Numbers_str) (defScope s_Numbers_str) .none kV_Numbers_str dc_Numbers_str pm_Numbers_str an_Numbers_str cd_Numbers_str ct_Numbers_str), sl_Numbers_str⟩)
    (c_Numbers_str : PySem.W.codeIn K cd_Numbers_str "Numbers.__str__" = true)
    (k_Numbers_str : PySem.W.keepIn K (.ref f_Numbers_str) = true)
    (a_Numbers_repr : PySem.W.findIn K (.ref C) "__repr__" = some (some (.ref f_Numbers_repr)))
    (i_Numbers_repr : PySem.W.isFn K (.ref f_Numbers_repr) = true)
    (l_Numbers_repr : K.lookup f_Numbers_repr = some ⟨oc_Numbers_repr, od_Numbers_repr, .func (PySem.W.fnOf "__repr__" "Numbers.__repr__" (defArgs s_Numbers_repr) (defBody s_Numbers_repr) (defScope s_Numbers_repr) .none kV_Numbers_repr dc_Numbers_repr pm_Numbers_repr an_Numbers_repr cd_Numbers_repr ct_Numbers_repr), sl_Numbers_repr⟩)
    (c_Numbers_repr : PySem.W.codeIn K cd_Numbers_repr "Numbers.__repr__" = true)
    (k_Numbers_repr : PySem.W.keepIn K (.ref f_Numbers_repr) = true)
    (pa_Numbers_stretches : PySem.W.findIn K (.ref C) "stretches" = some (some (.ref pr_Numbers_stretches)))
    (pg_Numbers_stretches : PySem.W.specialIn K (.ref pr_Numbers_stretches) "__get__" = some (some (.builtin "property.__get__")))
    (pt_Numbers_stretches : PySem.W.takesIn K (.ref pr_Numbers_stretches) = some true)
    (pc_Numbers_stretches : PySem.W.recIn K pr_Numbers_stretches "property" = some (.ref f_Numbers_stretches :: rest_Numbers_stretches))
    (l_Numbers_stretches : K.lookup f_Numbers_stretches = some ⟨oc_Numbers_stretches, od_Numbers_stretches, .func (PySem.W.fnOf "stretches" "Numbers.stretches" (defArgs s_Numbers_stretches) (defBody s_Numbers_stretches) (defScope s_Numbers_stretches) .none kV_Numbers_stretches dc_Numbers_stretches pm_Numbers_stretches an_Numbers_stretches cd_Numbers_stretches ct_Numbers_stretches), sl_Numbers_stretches⟩)
    (c_Numbers_stretches : PySem.W.codeIn K cd_Numbers_stretches "Numbers.stretches" = true)
    (k_Numbers_stretches : PySem.W.keepIn K (.ref f_Numbers_stretches) = true)
    (pa_Numbers_smallest : PySem.W.findIn K (.ref C) "smallest" = some (some (.ref pr_Numbers_smallest)))
    (pg_Numbers_smallest : PySem.W.specialIn K (.ref pr_Numbers_smallest) "__get__" = some (some (.builtin "property.__get__")))
    (pt_Numbers_smallest : PySem.W.takesIn K (.ref pr_Numbers_smallest) = some true)
    (pc_Numbers_smallest : PySem.W.recIn K pr_Numbers_smallest "property" = some (.ref f_Numbers_smallest :: rest_Numbers_smallest))
    (l_Numbers_smallest : K.lookup f_Numbers_smallest = some ⟨oc_Numbers_smallest, od_Numbers_smallest, .func (PySem.W.fnOf "smallest" "Numbers.smallest" (defArgs s_Numbers_smallest) (defBody s_Numbers_smallest) (defScope s_Numbers_smallest) .none kV_Numbers_smallest dc_Numbers_smallest pm_Numbers_smallest an_Numbers_smallest cd_Numbers_smallest ct_Numbers_smallest), sl_Numbers_smallest⟩)
    (c_Numbers_smallest : PySem.W.codeIn K cd_Numbers_smallest "Numbers.smallest" = true)
    (k_Numbers_smallest : PySem.W.keepIn K (.ref f_Numbers_smallest) = true)
    (pa_Numbers_endless : PySem.W.findIn K (.ref C) "endless" = some (some (.ref pr_Numbers_endless)))
    (pg_Numbers_endless : PySem.W.specialIn K (.ref pr_Numbers_endless) "__get__" = some (some (.builtin "property.__get__")))
    (pt_Numbers_endless : PySem.W.takesIn K (.ref pr_Numbers_endless) = some true)
    (pc_Numbers_endless : PySem.W.recIn K pr_Numbers_endless "property" = some (.ref f_Numbers_endless :: rest_Numbers_endless))
    (l_Numbers_endless : K.lookup f_Numbers_endless = some ⟨oc_Numbers_endless, od_Numbers_endless, .func (PySem.W.fnOf "endless" "Numbers.endless" (defArgs s_Numbers_endless) (defBody s_Numbers_endless) (defScope s_Numbers_endless) .none kV_Numbers_endless dc_Numbers_endless pm_Numbers_endless an_Numbers_endless cd_Numbers_endless ct_Numbers_endless), sl_Numbers_endless⟩)
    (c_Numbers_endless : PySem.W.codeIn K cd_Numbers_endless "Numbers.endless" = true)
    (k_Numbers_endless : PySem.W.keepIn K (.ref f_Numbers_endless) = true)
    (a_Numbers_ascending : PySem.W.findIn K (.ref C) "ascending" = some (some (.ref f_Numbers_ascending)))
    (i_Numbers_ascending : PySem.W.isFn K (.ref f_Numbers_ascending) = true)
    (l_Numbers_ascending : K.lookup f_Numbers_ascending = some ⟨oc_Numbers_ascending, od_Numbers_ascending, .func (PySem.W.fnOf "ascending" "Numbers.ascending" (defArgs s_Numbers_ascending) (defBody s_Numbers_ascending) (defScope s_Numbers_ascending) .none kV_Numbers_ascending dc_Numbers_ascending pm_Numbers_ascending an_Numbers_ascending cd_Numbers_ascending ct_Numbers_ascending), sl_Numbers_ascending⟩)
    (c_Numbers_ascending : PySem.W.codeIn K cd_Numbers_ascending "Numbers.ascending" = true)
    (k_Numbers_ascending : PySem.W.keepIn K (.ref f_Numbers_ascending) = true)
    (z_len : PySem.W.nsIn K mainGlobals "len" = some none)
    (z_abs : PySem.W.nsIn K mainGlobals "abs" = some none)
    (z_int : PySem.W.nsIn K mainGlobals "int" = some none)
    (z_bool : PySem.W.nsIn K mainGlobals "bool" = some none)
    (z_tuple : PySem.W.nsIn K mainGlobals "tuple" = some none)
    (z_isinstance : PySem.W.nsIn K mainGlobals "isinstance" = some none)
    (z_divmod : PySem.W.nsIn K mainGlobals "divmod" = some none)
    (z_max : PySem.W.nsIn K mainGlobals "max" = some none)
    (z_min : PySem.W.nsIn K mainGlobals "min" = some none)
    (z_range : PySem.W.nsIn K mainGlobals "range" = some none)
    (z_all : PySem.W.nsIn K mainGlobals "all" = some none)
    (z_repr : PySem.W.nsIn K mainGlobals "repr" = some none)
    (z_str : PySem.W.nsIn K mainGlobals "str" = some none)
    (z_enumerate : PySem.W.nsIn K mainGlobals "enumerate" = some none)
    (z_any : PySem.W.nsIn K mainGlobals "any" = some none)
    (z_list : PySem.W.nsIn K mainGlobals "list" = some none)
    (a_is_integer : PySem.W.nsIn K mainGlobals "is_integer" = some (some (.ref f_is_integer)))
    (l_is_integer : K.lookup f_is_integer = some ⟨oc_is_integer, od_is_integer, .func (PySem.W.fnOf "is_integer" "is_integer" (defArgs s_is_integer) (defBody s_is_integer) (defScope s_is_integer) .none kV_is_integer dc_is_integer pm_is_integer an_is_integer cd_is_integer ct_is_integer), sl_is_integer⟩)
    (c_is_integer : PySem.W.codeIn K cd_is_integer "is_integer" = true)
    (k_is_integer : PySem.W.keepIn K (.ref f_is_integer) = true)
    (a_is_integer_within : PySem.W.nsIn K mainGlobals "is_integer_within" = some (some (.ref f_is_integer_within)))
    (l_is_integer_within : K.lookup f_is_integer_within = some ⟨oc_is_integer_within, od_is_integer_within, .func (PySem.W.fnOf "is_integer_within" "is_integer_within" (defArgs s_is_integer_within) (defBody s_is_integer_within) (defScope s_is_integer_within) .none kV_is_integer_within dc_is_integer_within pm_is_integer_within an_is_integer_within cd_is_integer_within ct_is_integer_within), sl_is_integer_within⟩)
    (c_is_integer_within : PySem.W.codeIn K cd_is_integer_within "is_integer_within" = true)
    (k_is_integer_within : PySem.W.keepIn K (.ref f_is_integer_within) = true)
    (a_is_count : PySem.W.nsIn K mainGlobals "is_count" = some (some (.ref f_is_count)))
    (l_is_count : K.lookup f_is_count = some ⟨oc_is_count, od_is_count, .func (PySem.W.fnOf "is_count" "is_count" (defArgs s_is_count) (defBody s_is_count) (defScope s_is_count) .none kV_is_count dc_is_count pm_is_count an_is_count cd_is_count ct_is_count), sl_is_count⟩)
    (c_is_count : PySem.W.codeIn K cd_is_count "is_count" = true)
    (k_is_count : PySem.W.keepIn K (.ref f_is_count) = true)
    (a_is_stretch : PySem.W.nsIn K mainGlobals "is_stretch" = some (some (.ref f_is_stretch)))
    (l_is_stretch : K.lookup f_is_stretch = some ⟨oc_is_stretch, od_is_stretch, .func (PySem.W.fnOf "is_stretch" "is_stretch" (defArgs s_is_stretch) (defBody s_is_stretch) (defScope s_is_stretch) .none kV_is_stretch dc_is_stretch pm_is_stretch an_is_stretch cd_is_stretch ct_is_stretch), sl_is_stretch⟩)
    (c_is_stretch : PySem.W.codeIn K cd_is_stretch "is_stretch" = true)
    (k_is_stretch : PySem.W.keepIn K (.ref f_is_stretch) = true)
    (a_least_first_behind : PySem.W.nsIn K mainGlobals "least_first_behind" = some (some (.ref f_least_first_behind)))
    (l_least_first_behind : K.lookup f_least_first_behind = some ⟨oc_least_first_behind, od_least_first_behind, .func (PySem.W.fnOf "least_first_behind" "least_first_behind" (defArgs s_least_first_behind) (defBody s_least_first_behind) (defScope s_least_first_behind) .none kV_least_first_behind dc_least_first_behind pm_least_first_behind an_least_first_behind cd_least_first_behind ct_least_first_behind), sl_least_first_behind⟩)
    (c_least_first_behind : PySem.W.codeIn K cd_least_first_behind "least_first_behind" = true)
    (k_least_first_behind : PySem.W.keepIn K (.ref f_least_first_behind) = true)
    (a_lies_within : PySem.W.nsIn K mainGlobals "lies_within" = some (some (.ref f_lies_within)))
    (l_lies_within : K.lookup f_lies_within = some ⟨oc_lies_within, od_lies_within, .func (PySem.W.fnOf "lies_within" "lies_within" (defArgs s_lies_within) (defBody s_lies_within) (defScope s_lies_within) .none kV_lies_within dc_lies_within pm_lies_within an_lies_within cd_lies_within ct_lies_within), sl_lies_within⟩)
    (c_lies_within : PySem.W.codeIn K cd_lies_within "lies_within" = true)
    (k_lies_within : PySem.W.keepIn K (.ref f_lies_within) = true)
    (a_stretch_text : PySem.W.nsIn K mainGlobals "stretch_text" = some (some (.ref f_stretch_text)))
    (l_stretch_text : K.lookup f_stretch_text = some ⟨oc_stretch_text, od_stretch_text, .func (PySem.W.fnOf "stretch_text" "stretch_text" (defArgs s_stretch_text) (defBody s_stretch_text) (defScope s_stretch_text) .none kV_stretch_text dc_stretch_text pm_stretch_text an_stretch_text cd_stretch_text ct_stretch_text), sl_stretch_text⟩)
    (c_stretch_text : PySem.W.codeIn K cd_stretch_text "stretch_text" = true)
    (k_stretch_text : PySem.W.keepIn K (.ref f_stretch_text) = true)
    (a_stretches_text : PySem.W.nsIn K mainGlobals "stretches_text" = some (some (.ref f_stretches_text)))
    (l_stretches_text : K.lookup f_stretches_text = some ⟨oc_stretches_text, od_stretches_text, .func (PySem.W.fnOf "stretches_text" "stretches_text" (defArgs s_stretches_text) (defBody s_stretches_text) (defScope s_stretches_text) .none kV_stretches_text dc_stretches_text pm_stretches_text an_stretches_text cd_stretches_text ct_stretches_text), sl_stretches_text⟩)
    (c_stretches_text : PySem.W.codeIn K cd_stretches_text "stretches_text" = true)
    (k_stretches_text : PySem.W.keepIn K (.ref f_stretches_text) = true)
    (a_law_cup : PySem.W.nsIn K mainGlobals "_law_cup" = some (some (.ref f_law_cup)))
    (l_law_cup : K.lookup f_law_cup = some ⟨oc_law_cup, od_law_cup, .func (PySem.W.fnOf "_law_cup" "_law_cup" (defArgs s_law_cup) (defBody s_law_cup) (defScope s_law_cup) .none kV_law_cup dc_law_cup pm_law_cup an_law_cup cd_law_cup ct_law_cup), sl_law_cup⟩)
    (c_law_cup : PySem.W.codeIn K cd_law_cup "_law_cup" = true)
    (k_law_cup : PySem.W.keepIn K (.ref f_law_cup) = true)
    (a_law_sip : PySem.W.nsIn K mainGlobals "_law_sip" = some (some (.ref f_law_sip)))
    (l_law_sip : K.lookup f_law_sip = some ⟨oc_law_sip, od_law_sip, .func (PySem.W.fnOf "_law_sip" "_law_sip" (defArgs s_law_sip) (defBody s_law_sip) (defScope s_law_sip) .none kV_law_sip dc_law_sip pm_law_sip an_law_sip cd_law_sip ct_law_sip), sl_law_sip⟩)
    (c_law_sip : PySem.W.codeIn K cd_law_sip "_law_sip" = true)
    (k_law_sip : PySem.W.keepIn K (.ref f_law_sip) = true)
    (a_law_pick : PySem.W.nsIn K mainGlobals "_law_pick" = some (some (.ref f_law_pick)))
    (l_law_pick : K.lookup f_law_pick = some ⟨oc_law_pick, od_law_pick, .func (PySem.W.fnOf "_law_pick" "_law_pick" (defArgs s_law_pick) (defBody s_law_pick) (defScope s_law_pick) .none kV_law_pick dc_law_pick pm_law_pick an_law_pick cd_law_pick ct_law_pick), sl_law_pick⟩)
    (c_law_pick : PySem.W.codeIn K cd_law_pick "_law_pick" = true)
    (k_law_pick : PySem.W.keepIn K (.ref f_law_pick) = true)
    (a_law_cuts : PySem.W.nsIn K mainGlobals "_law_cuts" = some (some (.ref f_law_cuts)))
    (l_law_cuts : K.lookup f_law_cuts = some ⟨oc_law_cuts, od_law_cuts, .func (PySem.W.fnOf "_law_cuts" "_law_cuts" (defArgs s_law_cuts) (defBody s_law_cuts) (defScope s_law_cuts) .none kV_law_cuts dc_law_cuts pm_law_cuts an_law_cuts cd_law_cuts ct_law_cuts), sl_law_cuts⟩)
    (c_law_cuts : PySem.W.codeIn K cd_law_cuts "_law_cuts" = true)
    (k_law_cuts : PySem.W.keepIn K (.ref f_law_cuts) = true)
    (a_law_holds : PySem.W.nsIn K mainGlobals "_law_holds" = some (some (.ref f_law_holds)))
    (l_law_holds : K.lookup f_law_holds = some ⟨oc_law_holds, od_law_holds, .func (PySem.W.fnOf "_law_holds" "_law_holds" (defArgs s_law_holds) (defBody s_law_holds) (defScope s_law_holds) .none kV_law_holds dc_law_holds pm_law_holds an_law_holds cd_law_holds ct_law_holds), sl_law_holds⟩)
    (c_law_holds : PySem.W.codeIn K cd_law_holds "_law_holds" = true)
    (k_law_holds : PySem.W.keepIn K (.ref f_law_holds) = true)
    (a_law_cut_words : PySem.W.nsIn K mainGlobals "_law_cut_words" = some (some (.ref f_law_cut_words)))
    (l_law_cut_words : K.lookup f_law_cut_words = some ⟨oc_law_cut_words, od_law_cut_words, .func (PySem.W.fnOf "_law_cut_words" "_law_cut_words" (defArgs s_law_cut_words) (defBody s_law_cut_words) (defScope s_law_cut_words) .none kV_law_cut_words dc_law_cut_words pm_law_cut_words an_law_cut_words cd_law_cut_words ct_law_cut_words), sl_law_cut_words⟩)
    (c_law_cut_words : PySem.W.codeIn K cd_law_cut_words "_law_cut_words" = true)
    (k_law_cut_words : PySem.W.keepIn K (.ref f_law_cut_words) = true)
    (a_law_edges : PySem.W.nsIn K mainGlobals "_law_edges" = some (some (.ref f_law_edges)))
    (l_law_edges : K.lookup f_law_edges = some ⟨oc_law_edges, od_law_edges, .func (PySem.W.fnOf "_law_edges" "_law_edges" (defArgs s_law_edges) (defBody s_law_edges) (defScope s_law_edges) .none kV_law_edges dc_law_edges pm_law_edges an_law_edges cd_law_edges ct_law_edges), sl_law_edges⟩)
    (c_law_edges : PySem.W.codeIn K cd_law_edges "_law_edges" = true)
    (k_law_edges : PySem.W.keepIn K (.ref f_law_edges) = true)
    (a_law_set : PySem.W.nsIn K mainGlobals "_law_set" = some (some (.ref f_law_set)))
    (l_law_set : K.lookup f_law_set = some ⟨oc_law_set, od_law_set, .func (PySem.W.fnOf "_law_set" "_law_set" (defArgs s_law_set) (defBody s_law_set) (defScope s_law_set) .none kV_law_set dc_law_set pm_law_set an_law_set cd_law_set ct_law_set), sl_law_set⟩)
    (c_law_set : PySem.W.codeIn K cd_law_set "_law_set" = true)
    (k_law_set : PySem.W.keepIn K (.ref f_law_set) = true)
    (a_law_first : PySem.W.nsIn K mainGlobals "_law_first" = some (some (.ref f_law_first)))
    (l_law_first : K.lookup f_law_first = some ⟨oc_law_first, od_law_first, .func (PySem.W.fnOf "_law_first" "_law_first" (defArgs s_law_first) (defBody s_law_first) (defScope s_law_first) .none kV_law_first dc_law_first pm_law_first an_law_first cd_law_first ct_law_first), sl_law_first⟩)
    (c_law_first : PySem.W.codeIn K cd_law_first "_law_first" = true)
    (k_law_first : PySem.W.keepIn K (.ref f_law_first) = true)
    (a_law_right : PySem.W.nsIn K mainGlobals "_law_right" = some (some (.ref f_law_right)))
    (l_law_right : K.lookup f_law_right = some ⟨oc_law_right, od_law_right, .func (PySem.W.fnOf "_law_right" "_law_right" (defArgs s_law_right) (defBody s_law_right) (defScope s_law_right) .none kV_law_right dc_law_right pm_law_right an_law_right cd_law_right ct_law_right), sl_law_right⟩)
    (c_law_right : PySem.W.codeIn K cd_law_right "_law_right" = true)
    (k_law_right : PySem.W.keepIn K (.ref f_law_right) = true)
    (a_law : PySem.W.nsIn K mainGlobals "law" = some (some (.ref f_law)))
    (l_law : K.lookup f_law = some ⟨oc_law, od_law, .func (PySem.W.fnOf "law" "law" (defArgs s_law) (defBody s_law) (defScope s_law) .none kV_law dc_law pm_law an_law cd_law ct_law), sl_law⟩)
    (c_law : PySem.W.codeIn K cd_law "law" = true)
    (k_law : PySem.W.keepIn K (.ref f_law) = true) :
    ∃ fd : FuncData, (∀ (s : Shared) (v : Value), BindsTo s fd ⟨[v], []⟩ [("_law_script", v)]) ∧ ∀ base : Heap, K.In base → base.Ns mainGlobals mg → FnG l.prog w K mg base 10 fa fd ["_law_script"] (spLaw K) := by
  have e := hfa.symm.trans (PySem.W.mg_of X G a_law)
  cases e
  have T : TxtO K mg tC C := { len := PySem.W.mg_none_of X G z_len, abs := PySem.W.mg_none_of X G z_abs, int_ := PySem.W.mg_none_of X G z_int, bool_ := PySem.W.mg_none_of X G z_bool, tuple_ := PySem.W.mg_none_of X G z_tuple, isinstance := PySem.W.mg_none_of X G z_isinstance, divmod := PySem.W.mg_none_of X G z_divmod, max := PySem.W.mg_none_of X G z_max, min := PySem.W.mg_none_of X G z_min, range := PySem.W.mg_none_of X G z_range, all := PySem.W.mg_none_of X G z_all, repr := PySem.W.mg_none_of X G z_repr, str_ := PySem.W.mg_none_of X G z_str, enumerate := PySem.W.mg_none_of X G z_enumerate, any := PySem.W.mg_none_of X G z_any, mgC := PySem.W.mg_of X G aC, cl := ⟨pgC, hdC, poC, saC⟩, nHeld := nC_held, mgCo := PySem.W.mg_of X G aMS }
  refine ⟨PySem.W.fnOf "law" "law" (defArgs s_law) (defBody s_law) (defScope s_law) .none kV_law dc_law pm_law an_law cd_law ct_law, fun s v => .of_eq rfl, fun base _ _ => ?_⟩
  have TN := T.toTxtN
  have T0 := T.toTxtN.toTxt
  have TL : mg "list" = none := PySem.W.mg_none_of X G z_list
  have F_is_integer := fun_mk (st := s_is_integer) l_is_integer c_is_integer k_is_integer
  have b_is_integer := F_is_integer.binds (ps := ["value"]) fun _ _ _ _ _ _ us hl => match us, hl with | [_], _ => rfl
  have D_is_integer : Df l.prog w K mg base 1 "is_integer" ["value"] spIsInt := ⟨_, _, ok_isint F_is_integer T0, PySem.W.mg_of X G a_is_integer, k_is_integer, b_is_integer⟩
  have F_is_integer_within := fun_mk (st := s_is_integer_within) l_is_integer_within c_is_integer_within k_is_integer_within
  have b_is_integer_within := F_is_integer_within.binds (ps := ["value", "least", "most"]) fun _ _ _ _ _ _ us hl => match us, hl with | [_, _, _], _ => rfl
  have D_is_integer_within : Df l.prog w K mg base 2 "is_integer_within" ["value", "least", "most"] spWithinI := ⟨_, _, ok_withinI F_is_integer_within D_is_integer, PySem.W.mg_of X G a_is_integer_within, k_is_integer_within, b_is_integer_within⟩
  have F_is_count := fun_mk (st := s_is_count) l_is_count c_is_count k_is_count
  have b_is_count := F_is_count.binds (ps := ["value"]) fun _ _ _ _ _ _ us hl => match us, hl with | [_], _ => rfl
  have D_is_count : Df l.prog w K mg base 3 "is_count" ["value"] spCount := ⟨_, _, ok_countI F_is_count T D_is_integer_within, PySem.W.mg_of X G a_is_count, k_is_count, b_is_count⟩
  have F_is_stretch := fun_mk (st := s_is_stretch) l_is_stretch c_is_stretch k_is_stretch
  have b_is_stretch := F_is_stretch.binds (ps := ["value", "least"]) fun _ _ _ _ _ _ us hl => match us, hl with | [_, _], _ => rfl
  have D_is_stretch : Df l.prog w K mg base 2 "is_stretch" ["value", "least"] spIsSt := ⟨_, _, ok_isst F_is_stretch T0 D_is_integer, PySem.W.mg_of X G a_is_stretch, k_is_stretch, b_is_stretch⟩
  have F_least_first_behind := fun_mk (st := s_least_first_behind) l_least_first_behind c_least_first_behind k_least_first_behind
  have b_least_first_behind := F_least_first_behind.binds (ps := ["stretch"]) fun _ _ _ _ _ _ us hl => match us, hl with | [_], _ => rfl
  have D_least_first_behind : Df l.prog w K mg base 1 "least_first_behind" ["stretch"] spLeast := ⟨_, _, ok_least F_least_first_behind, PySem.W.mg_of X G a_least_first_behind, k_least_first_behind, b_least_first_behind⟩
  have F_lies_within := fun_mk (st := s_lies_within) l_lies_within c_lies_within k_lies_within
  have b_lies_within := F_lies_within.binds (ps := ["number", "stretch"]) fun _ _ _ _ _ _ us hl => match us, hl with | [_, _], _ => rfl
  have D_lies_within : Df l.prog w K mg base 1 "lies_within" ["number", "stretch"] spLies := ⟨_, _, ok_lies F_lies_within, PySem.W.mg_of X G a_lies_within, k_lies_within, b_lies_within⟩
  have F_stretch_text := fun_mk (st := s_stretch_text) l_stretch_text c_stretch_text k_stretch_text
  have b_stretch_text := F_stretch_text.binds (ps := ["first", "last"]) fun _ _ _ _ _ _ us hl => match us, hl with | [_, _], _ => rfl
  have D_stretch_text : Df l.prog w K mg base 1 "stretch_text" ["first", "last"] spShT := ⟨_, _, ok_sht F_stretch_text T0, PySem.W.mg_of X G a_stretch_text, k_stretch_text, b_stretch_text⟩
  have F_stretches_text := fun_mk (st := s_stretches_text) l_stretches_text c_stretches_text k_stretches_text
  have b_stretches_text := F_stretches_text.binds (ps := ["row"]) fun _ _ _ _ _ _ us hl => match us, hl with | [_], _ => rfl
  have D_stretches_text : Df l.prog w K mg base 2 "stretches_text" ["row"] spRowW := ⟨_, _, ok_rowW F_stretches_text T0 D_stretch_text, PySem.W.mg_of X G a_stretches_text, k_stretches_text, b_stretches_text⟩
  have F_law_cup := fun_mk (st := s_law_cup) l_law_cup c_law_cup k_law_cup
  have b_law_cup := F_law_cup.binds (ps := ["_law_script", "_law_spot"]) fun _ _ _ _ _ _ us hl => match us, hl with | [_, _], _ => rfl
  have D_law_cup : Df l.prog w K mg base 1 "_law_cup" ["_law_script", "_law_spot"] (spCup K) := ⟨_, _, ok_cup F_law_cup T0, PySem.W.mg_of X G a_law_cup, k_law_cup, b_law_cup⟩
  have F_law_sip := fun_mk (st := s_law_sip) l_law_sip c_law_sip k_law_sip
  have b_law_sip := F_law_sip.binds (ps := ["_law_cup_here", "_law_many"]) fun _ _ _ _ _ _ us hl => match us, hl with | [_, _], _ => rfl
  have D_law_sip : Df l.prog w K mg base 1 "_law_sip" ["_law_cup_here", "_law_many"] spSip := ⟨_, _, ok_sip F_law_sip T0, PySem.W.mg_of X G a_law_sip, k_law_sip, b_law_sip⟩
  have F_law_pick := fun_mk (st := s_law_pick) l_law_pick c_law_pick k_law_pick
  have b_law_pick := F_law_pick.binds (ps := ["_law_cup_here", "_law_things"]) fun _ _ _ _ _ _ us hl => match us, hl with | [_, _], _ => rfl
  have D_law_pick : Df l.prog w K mg base 2 "_law_pick" ["_law_cup_here", "_law_things"] spPick := ⟨_, _, ok_pick F_law_pick T0 D_law_sip, PySem.W.mg_of X G a_law_pick, k_law_pick, b_law_pick⟩
  have D_is_integerG : Df l.prog w K mg base 1 "is_integer" ["value"] (spIntG K) := ⟨_, _, ok_isintG F_is_integer T0, PySem.W.mg_of X G a_is_integer, k_is_integer, b_is_integer⟩
  have F_Numbers_init := fun_mk (st := s_Numbers_init) l_Numbers_init c_Numbers_init k_Numbers_init
  have F_Numbers_contains := fun_mk (st := s_Numbers_contains) l_Numbers_contains c_Numbers_contains k_Numbers_contains
  have b_Numbers_contains := F_Numbers_contains.binds (ps := ["self", "x"]) fun _ _ _ _ _ _ us hl => match us, hl with | [_, _], _ => rfl
  have F_Numbers_eq := fun_mk (st := s_Numbers_eq) l_Numbers_eq c_Numbers_eq k_Numbers_eq
  have b_Numbers_eq := F_Numbers_eq.binds (ps := ["self", "other"]) fun _ _ _ _ _ _ us hl => match us, hl with | [_, _], _ => rfl
  have F_Numbers_bool := fun_mk (st := s_Numbers_bool) l_Numbers_bool c_Numbers_bool k_Numbers_bool
  have b_Numbers_bool := F_Numbers_bool.binds (ps := ["self"]) fun _ _ _ _ _ _ us hl => match us, hl with | [_], _ => rfl
  have F_Numbers_str := fun_mk (st := s_Numbers_str) l_Numbers_str c_Numbers_str k_Numbers_str
  have b_Numbers_str := F_Numbers_str.binds (ps := ["self"]) fun _ _ _ _ _ _ us hl => match us, hl with | [_], _ => rfl
  have F_Numbers_repr := fun_mk (st := s_Numbers_repr) l_Numbers_repr c_Numbers_repr k_Numbers_repr
  have b_Numbers_repr := F_Numbers_repr.binds (ps := ["self"]) fun _ _ _ _ _ _ us hl => match us, hl with | [_], _ => rfl
  have F_Numbers_stretches := fun_mk (st := s_Numbers_stretches) l_Numbers_stretches c_Numbers_stretches k_Numbers_stretches
  have b_Numbers_stretches := F_Numbers_stretches.binds (ps := ["self"]) fun _ _ _ _ _ _ us hl => match us, hl with | [_], _ => rfl
  have F_Numbers_smallest := fun_mk (st := s_Numbers_smallest) l_Numbers_smallest c_Numbers_smallest k_Numbers_smallest
  have b_Numbers_smallest := F_Numbers_smallest.binds (ps := ["self"]) fun _ _ _ _ _ _ us hl => match us, hl with | [_], _ => rfl
  have F_Numbers_endless := fun_mk (st := s_Numbers_endless) l_Numbers_endless c_Numbers_endless k_Numbers_endless
  have b_Numbers_endless := F_Numbers_endless.binds (ps := ["self"]) fun _ _ _ _ _ _ us hl => match us, hl with | [_], _ => rfl
  have F_Numbers_ascending := fun_mk (st := s_Numbers_ascending) l_Numbers_ascending c_Numbers_ascending k_Numbers_ascending
  have b_Numbers_ascending := F_Numbers_ascending.binds (ps := ["self", "count"]) fun _ _ _ _ _ _ us hl => match us, hl with | [_, _], _ => rfl
  have I : IsC K C := ⟨caC, cn, ct, cmC, (by unfold PySem.W.kitOne; simp), (by unfold PySem.W.notFirst; simp)⟩
  have X_num : NumD l.prog w K mg base C f_Numbers_init := ⟨⟨mkC, a_Numbers_init, i_Numbers_init, kcC⟩, ok_ninit F_Numbers_init TN D_is_stretch D_least_first_behind⟩
  have ON : OwS l.prog w K mg base C pr_Numbers_stretches f_Numbers_stretches _ := ⟨⟨pa_Numbers_stretches, pg_Numbers_stretches, pt_Numbers_stretches, _, pc_Numbers_stretches⟩, ok_strs F_Numbers_stretches TN, b_Numbers_stretches⟩
  have OSm : OwP l.prog w K mg base C pr_Numbers_smallest f_Numbers_smallest _ "smallest" (spSm C) := ⟨⟨pa_Numbers_smallest, pg_Numbers_smallest, pt_Numbers_smallest, _, pc_Numbers_smallest⟩, ok_small F_Numbers_smallest T, b_Numbers_smallest⟩
  have OEn : OwP l.prog w K mg base C pr_Numbers_endless f_Numbers_endless _ "endless" (spEn C) := ⟨⟨pa_Numbers_endless, pg_Numbers_endless, pt_Numbers_endless, _, pc_Numbers_endless⟩, ok_endl F_Numbers_endless T, b_Numbers_endless⟩
  have OBo : OwM l.prog w K mg base C f_Numbers_bool _ "__bool__" 1 ["self"] (spBo C) := ⟨a_Numbers_bool, i_Numbers_bool, ok_nbool F_Numbers_bool T, b_Numbers_bool⟩
  have OT : OwM l.prog w K mg base C f_Numbers_str _ "__str__" 3 ["self"] (spTx C wT) := ⟨a_Numbers_str, i_Numbers_str, ok_nstrW F_Numbers_str T D_stretches_text, b_Numbers_str⟩
  have ORp : OwM l.prog w K mg base C f_Numbers_repr _ "__repr__" 3 ["self"] (spTx C rT) := ⟨a_Numbers_repr, i_Numbers_repr, ok_nrepW F_Numbers_repr T D_stretches_text, b_Numbers_repr⟩
  have OC : OwM l.prog w K mg base C f_Numbers_contains _ "__contains__" 2 ["self", "x"] (spContD K C) := ⟨a_Numbers_contains, i_Numbers_contains, ok_contD F_Numbers_contains T D_is_integerG D_lies_within, b_Numbers_contains⟩
  have OE : OwE l.prog w K mg base C f_Numbers_eq _ := ⟨a_Numbers_eq, i_Numbers_eq, ok_eqn F_Numbers_eq TN I, b_Numbers_eq, n_at, n_sub⟩
  have OEA : OwEA l.prog w K mg base C f_Numbers_eq _ := ⟨a_Numbers_eq, i_Numbers_eq, ok_eqA F_Numbers_eq T, b_Numbers_eq, n_at, n_sub, sb_N, sb_I, kt_N, kt_I, kt_S, kt_T, nf_S, nf_T⟩
  have MO : MtG l.prog w K mg base C 5 "ascending" "self" "count" (spAsc C) := ⟨⟨_, _, ok_asc l_Numbers_ascending c_Numbers_ascending T D_is_count, ⟨a_Numbers_ascending, i_Numbers_ascending, k_Numbers_ascending⟩, b_Numbers_ascending, fun _ _ _ _ => .of_eq rfl⟩⟩
  have F_law_cuts := fun_mk (st := s_law_cuts) l_law_cuts c_law_cuts k_law_cuts
  have b_law_cuts := F_law_cuts.binds (ps := ["_law_cup_here"]) fun _ _ _ _ _ _ us hl => match us, hl with | [_], _ => rfl
  have D_law_cuts : Df l.prog w K mg base 3 "_law_cuts" ["_law_cup_here"] spCuts := ⟨_, _, ok_cuts F_law_cuts T0 D_law_sip D_law_pick, PySem.W.mg_of X G a_law_cuts, k_law_cuts, b_law_cuts⟩
  have F_law_holds := fun_mk (st := s_law_holds) l_law_holds c_law_holds k_law_holds
  have b_law_holds := F_law_holds.binds (ps := ["_law_cuts_here", "_law_place"]) fun _ _ _ _ _ _ us hl => match us, hl with | [_, _], _ => rfl
  have D_law_holds : Df l.prog w K mg base 1 "_law_holds" ["_law_cuts_here", "_law_place"] spHolds := ⟨_, _, ok_holds F_law_holds TN, PySem.W.mg_of X G a_law_holds, k_law_holds, b_law_holds⟩
  have F_law_cut_words := fun_mk (st := s_law_cut_words) l_law_cut_words c_law_cut_words k_law_cut_words
  have b_law_cut_words := F_law_cut_words.binds (ps := ["_law_cuts_here"]) fun _ _ _ _ _ _ us hl => match us, hl with | [_], _ => rfl
  have D_law_cut_words : Df l.prog w K mg base 1 "_law_cut_words" ["_law_cuts_here"] spWords := ⟨_, _, ok_words F_law_cut_words T0, PySem.W.mg_of X G a_law_cut_words, k_law_cut_words, b_law_cut_words⟩
  have F_law_edges := fun_mk (st := s_law_edges) l_law_edges c_law_edges k_law_edges
  have b_law_edges := F_law_edges.binds (ps := ["_law_cuts_here"]) fun _ _ _ _ _ _ us hl => match us, hl with | [_], _ => rfl
  have D_law_edges : Df l.prog w K mg base 1 "_law_edges" ["_law_cuts_here"] spEdges := ⟨_, _, ok_edges F_law_edges T0, PySem.W.mg_of X G a_law_edges, k_law_edges, b_law_edges⟩
  have F_law_set := fun_mk (st := s_law_set) l_law_set c_law_set k_law_set
  have b_law_set := F_law_set.binds (ps := ["_law_s"]) fun _ _ _ _ _ _ us hl => match us, hl with | [_], _ => rfl
  have D_law_set : Df l.prog w K mg base 5 "_law_set" ["_law_s"] (spSet C) := ⟨_, _, ok_set F_law_set TN X_num, PySem.W.mg_of X G a_law_set, k_law_set, b_law_set⟩
  have F_law_first := fun_mk (st := s_law_first) l_law_first c_law_first k_law_first
  have b_law_first := F_law_first.binds (ps := ["_law_cuts_here", "_law_many"]) fun _ _ _ _ _ _ us hl => match us, hl with | [_, _], _ => rfl
  have D_law_first : Df l.prog w K mg base 1 "_law_first" ["_law_cuts_here", "_law_many"] spFirst := ⟨_, _, ok_first F_law_first T0, PySem.W.mg_of X G a_law_first, k_law_first, b_law_first⟩
  have F_law_right := fun_mk (st := s_law_right) l_law_right c_law_right k_law_right
  have b_law_right := F_law_right.binds (ps := ["_law_cup_here"]) fun _ _ _ _ _ _ us hl => match us, hl with | [_], _ => rfl
  have D_law_right : DfG l.prog w K mg base 9 "_law_right" ["_law_cup_here"] spRight := ⟨_, _, ok_right F_law_right T I TL ON OSm OEn OBo OT ORp OC OE OEA MO D_law_cuts D_law_set D_law_cut_words D_law_edges D_law_holds D_law_sip D_law_first, PySem.W.mg_of X G a_law_right, k_law_right, b_law_right⟩
  exact ok_law (fun_mk (st := s_law) l_law c_law k_law) T X_num OSm OT OC D_law_cup D_law_right
end RL

open PySem PySem.W PyProof.Rows
set_option maxRecDepth 100000 in
set_option maxHeartbeats 0 in
theorem PySem.Challenge.cw_rungladders_k06_sets_of_numbers_made_holds : PySem.Challenge.rw_rungladders_k06_sets_of_numbers_made.Holds := by
  w_on; o_law; k_head; (case hw => w_witness2)
  k_fill
  refine RL.walk_ofG (l := PySem.Challenge.rw_rungladders_k06_sets_of_numbers_made) (n := 63) (k := 10) (x := "_law_script") (sp := fun w => RL.spLaw _) rfl (by decide) rfl ⟨rfl, by decide, by decide⟩ (fun w h Y => PySem.W.kIn_of Y) ?F (fun _ _ a ns hl _ hS => ⟨a, ns, rfl, hS, hl, fun _ => rfl⟩)
  case F =>
    intro w mg fa h KX G hmg
    refine' RL.all_mk KX G hmg ?aC ?pgC ?hdC ?poC ?saC ?mkC ?kcC ?nC_held ?caC ?cmC ?cn ?ct ?aMS ?n_at ?n_sub ?sb_N ?sb_I ?kt_N ?kt_I ?kt_S ?kt_T ?nf_S ?nf_T ?a_Numbers_init ?i_Numbers_init ?l_Numbers_init ?c_Numbers_init ?k_Numbers_init ?a_Numbers_contains ?i_Numbers_contains ?l_Numbers_contains ?c_Numbers_contains ?k_Numbers_contains ?a_Numbers_eq ?i_Numbers_eq ?l_Numbers_eq ?c_Numbers_eq ?k_Numbers_eq ?a_Numbers_bool ?i_Numbers_bool ?l_Numbers_bool ?c_Numbers_bool ?k_Numbers_bool ?a_Numbers_str ?i_Numbers_str ?l_Numbers_str ?c_Numbers_str ?k_Numbers_str ?a_Numbers_repr ?i_Numbers_repr ?l_Numbers_repr ?c_Numbers_repr ?k_Numbers_repr ?pa_Numbers_stretches ?pg_Numbers_stretches ?pt_Numbers_stretches ?pc_Numbers_stretches ?l_Numbers_stretches ?c_Numbers_stretches ?k_Numbers_stretches ?pa_Numbers_smallest ?pg_Numbers_smallest ?pt_Numbers_smallest ?pc_Numbers_smallest ?l_Numbers_smallest ?c_Numbers_smallest ?k_Numbers_smallest ?pa_Numbers_endless ?pg_Numbers_endless ?pt_Numbers_endless ?pc_Numbers_endless ?l_Numbers_endless ?c_Numbers_endless ?k_Numbers_endless ?a_Numbers_ascending ?i_Numbers_ascending ?l_Numbers_ascending ?c_Numbers_ascending ?k_Numbers_ascending ?z_len ?z_abs ?z_int ?z_bool ?z_tuple ?z_isinstance ?z_divmod ?z_max ?z_min ?z_range ?z_all ?z_repr ?z_str ?z_enumerate ?z_any ?z_list ?a_is_integer ?l_is_integer ?c_is_integer ?k_is_integer ?a_is_integer_within ?l_is_integer_within ?c_is_integer_within ?k_is_integer_within ?a_is_count ?l_is_count ?c_is_count ?k_is_count ?a_is_stretch ?l_is_stretch ?c_is_stretch ?k_is_stretch ?a_least_first_behind ?l_least_first_behind ?c_least_first_behind ?k_least_first_behind ?a_lies_within ?l_lies_within ?c_lies_within ?k_lies_within ?a_stretch_text ?l_stretch_text ?c_stretch_text ?k_stretch_text ?a_stretches_text ?l_stretches_text ?c_stretches_text ?k_stretches_text ?a_law_cup ?l_law_cup ?c_law_cup ?k_law_cup ?a_law_sip ?l_law_sip ?c_law_sip ?k_law_sip ?a_law_pick ?l_law_pick ?c_law_pick ?k_law_pick ?a_law_cuts ?l_law_cuts ?c_law_cuts ?k_law_cuts ?a_law_holds ?l_law_holds ?c_law_holds ?k_law_holds ?a_law_cut_words ?l_law_cut_words ?c_law_cut_words ?k_law_cut_words ?a_law_edges ?l_law_edges ?c_law_edges ?k_law_edges ?a_law_set ?l_law_set ?c_law_set ?k_law_set ?a_law_first ?l_law_first ?c_law_first ?k_law_first ?a_law_right ?l_law_right ?c_law_right ?k_law_right ?a_law ?l_law ?c_law ?k_law
    (case aC => k_is)
    (case pgC => k_is)
    (case hdC => k_is)
    (case poC => k_is)
    (case saC => k_is)
    (case mkC => k_is)
    (case kcC => k_is)
    (case nC_held => k_is)
    (case caC => k_is)
    (case cmC => k_is)
    (case cn => k_is)
    (case ct => k_is)
    (case aMS => k_is)
    (case n_at => k_is)
    (case n_sub => k_is)
    (case sb_N => k_is)
    (case sb_I => k_is)
    (case kt_N => kit_is)
    (case kt_I => kit_is)
    (case kt_S => kit_is)
    (case kt_T => kit_is)
    (case nf_S => k_is)
    (case nf_T => k_is)
    (case a_Numbers_init => k_is)
    (case i_Numbers_init => k_is)
    (case l_Numbers_init => k_is)
    (case c_Numbers_init => k_is)
    (case k_Numbers_init => k_is)
    (case a_Numbers_contains => k_is)
    (case i_Numbers_contains => k_is)
    (case l_Numbers_contains => k_is)
    (case c_Numbers_contains => k_is)
    (case k_Numbers_contains => k_is)
    (case a_Numbers_eq => k_is)
    (case i_Numbers_eq => k_is)
    (case l_Numbers_eq => k_is)
    (case c_Numbers_eq => k_is)
    (case k_Numbers_eq => k_is)
    (case a_Numbers_bool => k_is)
    (case i_Numbers_bool => k_is)
    (case l_Numbers_bool => k_is)
    (case c_Numbers_bool => k_is)
    (case k_Numbers_bool => k_is)
    (case a_Numbers_str => k_is)
    (case i_Numbers_str => k_is)
    (case l_Numbers_str => k_is)
    (case c_Numbers_str => k_is)
    (case k_Numbers_str => k_is)
    (case a_Numbers_repr => k_is)
    (case i_Numbers_repr => k_is)
    (case l_Numbers_repr => k_is)
    (case c_Numbers_repr => k_is)
    (case k_Numbers_repr => k_is)
    (case pa_Numbers_stretches => k_is)
    (case pg_Numbers_stretches => k_is)
    (case pt_Numbers_stretches => k_is)
    (case pc_Numbers_stretches => k_is)
    (case l_Numbers_stretches => k_is)
    (case c_Numbers_stretches => k_is)
    (case k_Numbers_stretches => k_is)
    (case pa_Numbers_smallest => k_is)
    (case pg_Numbers_smallest => k_is)
    (case pt_Numbers_smallest => k_is)
    (case pc_Numbers_smallest => k_is)
    (case l_Numbers_smallest => k_is)
    (case c_Numbers_smallest => k_is)
    (case k_Numbers_smallest => k_is)
    (case pa_Numbers_endless => k_is)
    (case pg_Numbers_endless => k_is)
    (case pt_Numbers_endless => k_is)
    (case pc_Numbers_endless => k_is)
    (case l_Numbers_endless => k_is)
    (case c_Numbers_endless => k_is)
    (case k_Numbers_endless => k_is)
    (case a_Numbers_ascending => k_is)
    (case i_Numbers_ascending => k_is)
    (case l_Numbers_ascending => k_is)
    (case c_Numbers_ascending => k_is)
    (case k_Numbers_ascending => k_is)
    (case z_len => k_is)
    (case z_abs => k_is)
    (case z_int => k_is)
    (case z_bool => k_is)
    (case z_tuple => k_is)
    (case z_isinstance => k_is)
    (case z_divmod => k_is)
    (case z_max => k_is)
    (case z_min => k_is)
    (case z_range => k_is)
    (case z_all => k_is)
    (case z_repr => k_is)
    (case z_str => k_is)
    (case z_enumerate => k_is)
    (case z_any => k_is)
    (case z_list => k_is)
    (case a_is_integer => k_is)
    (case l_is_integer => k_is)
    (case c_is_integer => k_is)
    (case k_is_integer => k_is)
    (case a_is_integer_within => k_is)
    (case l_is_integer_within => k_is)
    (case c_is_integer_within => k_is)
    (case k_is_integer_within => k_is)
    (case a_is_count => k_is)
    (case l_is_count => k_is)
    (case c_is_count => k_is)
    (case k_is_count => k_is)
    (case a_is_stretch => k_is)
    (case l_is_stretch => k_is)
    (case c_is_stretch => k_is)
    (case k_is_stretch => k_is)
    (case a_least_first_behind => k_is)
    (case l_least_first_behind => k_is)
    (case c_least_first_behind => k_is)
    (case k_least_first_behind => k_is)
    (case a_lies_within => k_is)
    (case l_lies_within => k_is)
    (case c_lies_within => k_is)
    (case k_lies_within => k_is)
    (case a_stretch_text => k_is)
    (case l_stretch_text => k_is)
    (case c_stretch_text => k_is)
    (case k_stretch_text => k_is)
    (case a_stretches_text => k_is)
    (case l_stretches_text => k_is)
    (case c_stretches_text => k_is)
    (case k_stretches_text => k_is)
    (case a_law_cup => k_is)
    (case l_law_cup => k_is)
    (case c_law_cup => k_is)
    (case k_law_cup => k_is)
    (case a_law_sip => k_is)
    (case l_law_sip => k_is)
    (case c_law_sip => k_is)
    (case k_law_sip => k_is)
    (case a_law_pick => k_is)
    (case l_law_pick => k_is)
    (case c_law_pick => k_is)
    (case k_law_pick => k_is)
    (case a_law_cuts => k_is)
    (case l_law_cuts => k_is)
    (case c_law_cuts => k_is)
    (case k_law_cuts => k_is)
    (case a_law_holds => k_is)
    (case l_law_holds => k_is)
    (case c_law_holds => k_is)
    (case k_law_holds => k_is)
    (case a_law_cut_words => k_is)
    (case l_law_cut_words => k_is)
    (case c_law_cut_words => k_is)
    (case k_law_cut_words => k_is)
    (case a_law_edges => k_is)
    (case l_law_edges => k_is)
    (case c_law_edges => k_is)
    (case k_law_edges => k_is)
    (case a_law_set => k_is)
    (case l_law_set => k_is)
    (case c_law_set => k_is)
    (case k_law_set => k_is)
    (case a_law_first => k_is)
    (case l_law_first => k_is)
    (case c_law_first => k_is)
    (case k_law_first => k_is)
    (case a_law_right => k_is)
    (case l_law_right => k_is)
    (case c_law_right => k_is)
    (case k_law_right => k_is)
    (case a_law => k_is)
    (case l_law => k_is)
    (case c_law => k_is)
    (case k_law => k_is)

