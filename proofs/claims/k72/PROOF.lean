import PyProof.Rows.All
import Wide.All
import OpenK.AllK
import Wide.FinOn
import HandS.ForMost
import HandS.IsInst
import HandS.Wide
import HandS.WideBits
import HandS.MakeKwOnly
import HandS.SlotsOwn
import PyProof.ReprRoads
import HandS.Property
import HandS.FStr
import HandS.RaiseMore
import KE.KCallOwn
import PyProof.InstNe
import PyProof.ReprLen
import PyProof.Rows.ReprOcc
import HandS.Star
import HandS.ClsMeth
import HandS.Style
import HandS.TupAny
import HandS.Deep
import KE.KRevSl
import KE.GoesMore
import HandS.Iter
import HandS.Exc
import KE.KExcInit
import HandS.ExcInit
import KE.KExcIs
import PyProof.CallFns
import PyProof.StrLawsRepr
import PyProof.EqLayable
import HandS.Dict
import HandS.HotCalls
import HandS.ExcInitHot
import HandS.Lambda
import HandS.Comp
import KE.KLam
import PyProof.NeData
import HandS.More
import HandS.CallLocal
import HandS.TupMul
import HandS.Flow
import HandS.HeadHook3
import KE.RegKIsAll
import PySem.Challenge.RW_rungladders_k72_patterns_and_limits_judg
set_option Elab.async false
set_option linter.all false
set_option maxRecDepth 100000
/-! Defs that are called where no repr is under way: repr of lists and tuples within them; == by an own __eq__. -/
namespace RL
open PySem L2 PySem.Spec PyProof.Rows
structure FnG (P : Program) (w : World) (K : PySem.W.Frag) (mg : Str → Option Value) (base : Heap) (k : Nat) (f : Addr) (fd : FuncData) (ps : List Str) (sp : Sp) : Prop where
  len : ∀ vs H Q E, sp vs H Q E → vs.length = ps.length
  run : ∀ (A : Around) (outer : List Env) (s : Shared) (H : Hp) (args : Args) (us : List Value) (vs : List V) (Q : VK) (E : XK), A.guards = some [] → Room k A → Env0 P w K mg base A outer s H → BindsTo s fd args (ps.zip us) → Vals vs us → sp vs H Q E →
    codeAny (model P w) A (.call (.ref f) args) (CR CX0 outer P w H s Q E) s
section
variable {P : Program} {w : World} {K : PySem.W.Frag} {mg : Str → Option Value} {base : Heap}
theorem okG {x qual : Str} {st : Stmt} {f : Addr} {fd : FuncData} {N ps : List Str} {k : Nat} {sp : Sp} (F : Fun K x qual st f fd) (S : FnScope N ps (defScope st)) (len : ∀ vs H Q E, sp vs H Q E → vs.length = ps.length)
    (bd : ∀ (cdv : Value) (A : Around) (outer : List Env) (s : Shared) (H : Hp) (vs : List V) (Q : VK) (E : XK), A.guards = some [] → Room k (A.deeper (envOfC qual (defScope st) s.heap.objs.size f cdv)) → sp vs H Q E →
      ∃ t, PSs (cxOf CX0 P w K mg base N qual (defScope st) f cdv A outer s H E).nox (defBody st) t ∧ t { nx := fun _ H' => Q .non H', rt := Q } (start N vs) H) : FnG P w K mg base (k + 1) f fd ps sp := by
  obtain ⟨oc, od, kV, doc, pm, an, cdv, ct, osl, rfl, lk, hcd⟩ := F.ex
  refine ⟨len, fun A outer s H args us vs Q E hg hr e0 hb r hsp => ?_⟩
  have KX : K.In s.heap := e0.mod.kin.keeps fun b o e => (e0.bs b o e).1
  have lim := e0.mod.nolimit.keeps fun b o e => (e0.bs b o e).1
  refine codeAny_call_function hr.depth (KX _ _ lk) rfl S.co S.gen rfl (PySem.W.codeRec_of KX hcd) (hb _ _ _ _ (wpAny_newFunctionEnv_cells S.kind (fun ⟨n, v⟩ hy => ?_) fun env he s1 x => ?_))
  · exact (S.par n (List.of_mem_zip hy).1).imp id fun q => ⟨q, PySem.W.cellsFrom_some _ _ _ (.inl q)⟩
  · subst he
    obtain ⟨t, ht, hq⟩ := bd cdv A outer s H vs Q E hg (hr.deeper _) hsp
    have I : Inv (cxOf CX0 P w K mg base N qual (defScope st) f cdv A outer s H E) [] (start N vs) H s1 := inv_start S hr.hd e0 (len _ _ _ _ hsp) r x
    refine ⟨lim.keeps x.toInCall.keep, codeAny_func (wpAny_mono (ht.nox.run [] s1 _ H _ I hq) (fun fl s' hs => ?_) fun _ _ z => z)⟩
    cases fl with
    | ret u =>
      obtain ⟨v, σ', H', J, rv, q⟩ := hs
      exact ⟨v, H', J.os, J.bare, J.base, J.hok, rv, q⟩
    | next =>
      obtain ⟨σ', H', J, q⟩ := hs
      exact ⟨V.non, H', J.os, J.bare, J.base, J.hok, rfl, q⟩
    | brk => exact hs.elim fun _ z => z.elim fun _ y => False.elim y.2
    | cont => exact hs.elim fun _ z => z.elim fun _ y => False.elim y.2
end
structure DfG (P : Program) (w : World) (K : PySem.W.Frag) (mg : Str → Option Value) (base : Heap) (k : Nat) (x : Str) (ps : List Str) (sp : Sp) : Prop where
  ex : ∃ (f : Addr) (fd : FuncData), FnG P w K mg base k f fd ps sp ∧ mg x = some (.ref f) ∧ PySem.W.keepIn K (.ref f) = true ∧ Binds K fd ps []
section
variable {X : Cx} {k : Nat} {ps : List Str} {sp : Sp} {x : Str} {p pos : Pos} {e : Expr} {es : List Expr} {t : TA}
theorem pe_dfG (D : DfG X.prog X.w X.K X.mg X.base k x ps sp) (hG : X.A.guards = some []) (hr : Room k X.A) (hg : Gl X x)
    (ha : PA X (e :: es) t) (hdb : (x == ("__debug__" : Str)) = false := by decide) (he : starEach (e :: es) X.env = (false, eval e X.env) :: starEach es X.env := by rfl) (hpl : (backTo pos (starEach es X.env)).any (·.1) = false := by rfl) :
    PE X (.Call (.Name x p) (e :: es) [] pos) (tCall sp [] E0 t) := by
  obtain ⟨f, fd, F, hm, hk, hb⟩ := D.ex
  refine ⟨fun pins s σ H Q I h => wpAny_Call_Name_kw (ld_glob I hg hm (PySem.W.callWith_K (h₀ := X.base) I.ok.mod.kin hk (thn (ha.run pos pins s σ H _ I h) fun us s1 ⟨vs, H1, I1, r, q⟩ => ⟨I1.kIn, ?_⟩) he hpl) hdb)⟩
  have q0 : sp vs H1 Q E0 := by
    have q1 : sp (vs ++ []) H1 Q E0 := q
    rw [List.append_nil] at q1
    exact q1
  have hl : (us ++ []).length = ps.length := by
    rw [List.append_nil, ← r.length]
    exact F.len _ _ _ _ q0
  have hbb := hb s1 us I1.kIn hl
  rw [List.append_nil] at hbb
  refine wpAny_call (codeAny_mono (F.run X.A X.stack s1 H1 ⟨us, []⟩ us vs Q E0 hG hr I1.env0 hbb r q0) fun z s' hq => ?_)
  cases z with
  | error e => exact hq.elim
  | ok fl =>
    cases fl with
    | ret u => exact I1.after hq
    | next => exact hq.elim
    | brk => exact hq.elim
    | cont => exact hq.elim
/-! ### repr of a list or tuple of plain things -/
def rRepr (K : PySem.W.Frag) : List V → Hp → VK → Prop := fun vs H Q => ∃ (a : Addr) (d : PyData), vs = [.ref a] ∧ Dp K H (.ref a) d ∧ d.showable = true ∧ d.hasDict = false ∧ d.depth ≤ 40 ∧ d.shown.length ≤ sizeLine ∧ Q (.str d.shown) H
theorem cr_repr (hG : X.A.guards = some []) (hu : X.A.units + 64 < cLine) : CallR X (.builtin "repr") (rRepr X.K) := by
  intro pins s σ H vs us Q I r h
  obtain ⟨a, d, rfl, hd, h1, h2, h3, h4, q⟩ := h
  obtain ⟨as, rd⟩ := Dp.reads I d _ (.ref a) hd rfl
  rw [Vals.ref1 r]
  refine repr_of_reads' (h₀ := s.heap) rd h1 (fun z => by rw [h2] at z; cases z) hG (by omega) (fun _ _ z => z) (fun h' u tk hk => ?_) h4
  exact ⟨.str d.shown, H, I.kept hk, ⟨_, rfl⟩, q⟩
/-! ### == by an own __eq__ -/
def rEqOwn (K : PySem.W.Frag) (C : Addr) (sp : Sp) : R2 := fun x y H Q => ∃ a dx fs ty, x = .ref a ∧ H a = some (.ins C dx fs) ∧ TyX K H y ty ∧ PySem.W.notFirst K C ty = true ∧ sp [x, y] H Q E0
theorem op_eqOwn {C g : Addr} {fd : FuncData} (hs : PySem.W.findIn X.K (.ref C) "__eq__" = some (some (.ref g))) (hf : PySem.W.isFn X.K (.ref g) = true) (F : FnOk X.prog X.w X.K X.mg X.base CX0 k g fd ps sp) (hb : Binds X.K fd ps []) (hr : Room k X.A) :
    OpR X (compareOp .Eq) (rEqOwn X.K C sp) := by
  intro pins s σ H x y v u Q I rx ry h
  obtain ⟨a, dx, fs, ty, rfl, ha, hy, hn, q⟩ := h
  cases (show v = Value.ref a from rx)
  obtain ⟨mA, O, _⟩ := ins_get I.hok ha
  obtain ⟨od, J, _⟩ := O.look
  obtain ⟨PH, Z, ph, _⟩ := kit_of I ry hy
  obtain ⟨m, hF⟩ := I.fr
  show wpAny _ _ (richCompare .Eq (.ref a) u) _ _ _
  refine PySem.W.cmp_K (op := .Eq) hr.units0 hF I.ok.mod.kin J (Z.ty _ _ I.kIn ph) hn hs hf ?_
  have q0 : sp ([.ref a, y] ++ []) H Q E0 := q
  refine wpAny_mono (run_fn (us := [.ref a, u]) (vs := [.ref a, y]) F hr hb .nil pass0 I (.cons rfl (.cons ry .nil)) q0) (fun w s' z => ?_) fun _ _ z => z
  obtain ⟨z', H', I', rz, qz⟩ := z
  exact SlX.cmpback rz ⟨z', H', I', rz, qz⟩
end
end RL

/-! The end of a law whose own def is promised where no repr is under way. -/
namespace RL
open PySem L2 PySem.Spec PyProof.Rows
/-- the call, once the abstract heap is chosen -/
theorem law_runG {P : Program} {w : World} {K : PySem.W.Frag} {mg mb : Str → Option Value} {k : Nat} {fa a : Addr} {fd : FuncData} {x : Str} {sp : Sp} {s1 : Shared} {vs : List Value} {H : Hp}
    (KX : K.In s1.heap) (hns : s1.heap.Ns mainGlobals mg) (hb : s1.heap.Ns builtinsNs mb) (hbb : ∀ x : Str, x ≠ "__name__" → mb x = bootBuiltins x) (hlim : s1.heap.NoLimit) (hgen : s1.gens = #[])
    (ha : s1.heap.get? a = some { cls := .type "list", data := .seq vs.toArray }) (hr : Room k callerA)
    (F : ∀ base : Heap, K.In base → base.Ns mainGlobals mg → FnG P w K mg base k fa fd [x] sp) (hbind : ∀ (s : Shared) (u : Value), BindsTo s fd ⟨[u], []⟩ [(x, u)])
    (hO : Only H) (hsp : sp [.ref a] H (fun v _ => v = .bl true) fun _ _ _ => False) (hok : HOk P w H s1.heap) (hA : ∀ b u, H b = some u → b = a ∧ K.lookup a = none) :
    codeAny (model P w) callerA (.call (.ref fa) ⟨[.ref a], []⟩) (fun r s' => r = .ok (.ret (.bool true)) ∧ OldK s1.heap s'.heap ∧ s'.os = s1.os ∧ AllBare s'.gens) s1 := by
  have free : ∀ {b : Addr} {o : Obj}, s1.heap.get? b = some o → (b = a → o.data ≠ .seq vs.toArray) → H b = none := fun {b o} e n => by
    cases q : H b with
    | none => rfl
    | some u =>
      obtain ⟨rfl, _⟩ := hA b u q
      rw [ha] at e
      cases e
      exact absurd rfl (n rfl)
  have ns1 : ∀ {b : Addr} {m : Str → Option Value}, s1.heap.Ns b m → (hidT s1.heap H).Ns b m := fun {b m} ⟨o, es, ep, e, d, r⟩ => ⟨o, es, ep, hidT_get e (free e fun _ z => by rw [d] at z; cases z), d, r⟩
  have kin : K.In (hidT s1.heap H) := fun b o e => hidT_get (KX b o e) (by
    cases q : H b with
    | none => rfl
    | some u =>
      obtain ⟨rfl, z⟩ := hA b u q
      rw [z] at e
      cases e)
  obtain ⟨mc, c1, c2⟩ := hlim
  have e0 : Env0 P w K mg (hidT s1.heap H) callerA [] s1 H :=
    { frames := rfl, mod := ⟨kin, ns1 hns, ⟨mb, ns1 hb, hbb⟩, ⟨mc, ns1 c1, c2⟩⟩, bs := fun b o e => of_hidT e, bsz := Nat.le_of_eq (hidT_size _ _), funs := trivial, frf := fun b z => absurd (show b ∈ ([] : List Addr) from z) (by simp), hok := hok, bare := .of_eq hgen }
  refine codeAny_mono ((F _ kin (ns1 hns)).run callerA [] s1 H ⟨[.ref a], []⟩ [.ref a] [.ref a] _ _ rfl hr e0 (hbind s1 (.ref a)) (.cons rfl .nil) hsp) fun r s' h => ?_
  match r, h with
  | .ok (.ret u), ⟨v, H', os, bare, un, hok', r', q⟩ =>
    cases (show v = V.bl true from q)
    cases (show u = Value.bool true from r')
    refine ⟨rfl, OldK.of_keep fun b o e => ?_, os, bare⟩
    cases q2 : H b with
    | none => exact un.keep b o e q2 (fun z => absurd (show b ∈ ([] : List Addr) from z) (by simp)) (by simp)
    | some u =>
      rcases hO b with z | ⟨ob, xs, z⟩
      · rw [q2] at z
        cases z
      · obtain ⟨e1, _⟩ := hok b _ z
        obtain ⟨e2, _⟩ := hok' b _ (un.frzs b ob _ z)
        rw [e] at e1
        cases e1
        exact e2
theorem walk_ofG {l : PySem.W.OpenLaw} {n k : Nat} {q : Program} {loose : List Str} {XP : (Str → Option Value) → Heap → Prop} {YP : World → Heap → Prop} {d : DefRec} {K : Params → PySem.W.Frag} {sp : World → Sp} {x : Str}
    (hn : l.most = some n) (hn2 : n ≤ sizeLine) (hdf : d.params.defaults = []) (hr : Room k callerA) (hY : ∀ (w : World) (h : Heap), YP w h → (K w.params).In h)
    (F : ∀ (w : World) (mg : Str → Option Value) (fa : Addr) (h : Heap), (K w.params).In h → h.Ns mainGlobals mg → mg d.name = some (.ref fa) →
      ∃ fd : FuncData, (∀ (s : Shared) (u : Value), BindsTo s fd ⟨[u], []⟩ [(x, u)]) ∧ ∀ base : Heap, (K w.params).In base → base.Ns mainGlobals mg → FnG l.prog w (K w.params) mg base k fa fd [x] (sp w))
    (hsp : ∀ (w : World) (H : Hp) (a : Addr) (ns : List Int), ns.length ≤ n → Only H → SqL (K w.params) H a (ns.map V.int) → sp w [.ref a] H (fun v _ => v = .bl true) fun _ _ _ => False) :
    PySem.W.WalkO q loose XP YP l.row.toRowW d [] (fun f vs => PySem.call f vs) := by
  refine Att.attach_call hn hdf fun w s0 s1 mg mb fa o pm cd doc a vs ns G Y ho hd hcd hmg hobj hints hlen hgen => ?_
  have KX := hY w _ Y
  obtain ⟨fd, hb, hF⟩ := F w mg fa _ KX G.T.g hmg
  have rv := vals_ints hints
  have hl : ns.length ≤ sizeLine := Nat.le_trans hlen hn2
  have lenV := hints.length
  cases hk : (K w.params).lookup a with
  | some ob =>
    have e := KX a ob hk
    rw [hobj] at e
    cases e
    refine law_runG (H := fun _ => none) KX G.T.g G.T.b G.T.builtins G.T.nolimit hgen hobj hr hF hb (fun _ => .inl rfl) (hsp w _ a ns hlen (fun _ => .inl rfl) (.inr ⟨_, vs.toArray, _, hk, rfl, rfl, rfl, by rw [List.size_toArray, lenV]; exact hl, by simpa using rv⟩)) (fun b u z => ?_) fun b u z => ?_
    · cases (show (none : Option HO) = some u from z)
    · cases (show (none : Option HO) = some u from z)
  | none =>
    have only : Only (fun b => if b = a then some (HO.frz { cls := .type "list", data := .seq vs.toArray } (.lst (ns.map V.int))) else none) := fun b => by
      by_cases z : b = a
      · exact .inr ⟨_, _, if_pos z⟩
      · exact .inl (if_neg z)
    have at_ : ∀ {b : Addr} {u : HO}, (if b = a then some (HO.frz { cls := .type "list", data := .seq vs.toArray } (.lst (ns.map V.int))) else none) = some u → b = a ∧ u = HO.frz { cls := .type "list", data := .seq vs.toArray } (.lst (ns.map V.int)) := fun {b u} z => by
      by_cases y : b = a
      · rw [if_pos y] at z
        exact ⟨y, (Option.some.inj z).symm⟩
      · rw [if_neg y] at z
        cases z
    refine law_runG (H := fun b => if b = a then some (HO.frz { cls := .type "list", data := .seq vs.toArray } (.lst (ns.map V.int))) else none) KX G.T.g G.T.b G.T.builtins G.T.nolimit hgen hobj hr hF hb only (hsp w _ a ns hlen only (.inl (.inr ⟨_, if_pos rfl⟩))) (fun b u z => ?_) fun b u z => ⟨(at_ z).1, hk⟩
    obtain ⟨rfl, rfl⟩ := at_ z
    exact ⟨hobj, by rw [List.length_map]; exact hl, vs, _, rv, hobj⟩
end RL

/-! != of an own class with __eq__ alone; str and repr of its instances; a new one by keywords. -/
namespace RL
open PySem L2 PySem.Spec PyProof.Rows PySem.W Builtin
section
variable {prog : Program} {w : World} {A : Around} {E : Value → Shared → Prop} {s : Shared} {K : Frag} {x C L f : Addr} {h₀ : Heap} {m : Str → Option Value} {ox : Obj} {od : Option Obj} {b tb : Value}
/-- object.__ne__ asks the own __eq__ -/
theorem ne_entry {Q : Fin → Shared → Prop} (X : K.In s.heap) (I : InstAt s.heap x ox C od) (hs : findIn K (.ref C) "__eq__" = some (some (.ref f))) (hf : isFn K (.ref f) = true) (hu : A.units < cLine)
    (hc : wpAny (model prog w) A (call (.ref f) [.ref x, b]) (fun v s' => ∃ t, v = .bool t ∧ Q (.done (.ret (.bool (!t)))) s') E s) : wpAny (model prog w) A (Builtin.«object.__ne__» ⟨[.ref x, b], []⟩) Q E s := by
  unfold Builtin.«object.__ne__»
  repeat (first
    | with_reducible refine wpAny_cRoomFor hu ?_
    | (refine wpAny_bind (m := callSpecialIfBound? (.ref x) (Str.ofString "__eq__") [b])
        (ifBound_K X I hs hf (wpAny_mono hc (fun r s' hr => by
          obtain ⟨t, rfl, hq⟩ := hr
          repeat (first | exact hq | exact wpAny_pure hq | exact wpAny_truthy_bool hq | (refine wpAny_bind (m := truthy (.bool _)) (wpAny_truthy_bool ?_)) | wp_step)) fun _ _ z => z)))
    | wp_step)
theorem ne_try {Q : Value → Shared → Prop} (X : K.In s.heap) (I : InstAt s.heap x ox C od) (hne : findIn K (.ref C) "__ne__" = some (some (.builtin "object.__ne__"))) (hsub : subIn K (.ref C) (.type "object") = some true) (hs : findIn K (.ref C) "__eq__" = some (some (.ref f))) (hf : isFn K (.ref f) = true) (hu : A.units + 1 < cLine)
    (hc : wpAny (model prog w) A.in1 (call (.ref f) [.ref x, b]) (fun v s' => ∃ t, v = .bool t ∧ Q (.bool (!t)) s') E s) : wpAny (model prog w) A (tryCompare (.ref x) "__ne__" b) (fun r s' => ∃ v, r = some v ∧ Q v s') E s := by
  unfold tryCompare
  have go : wpAny (model prog w) A (call (.builtin "object.__ne__") [.ref x, b]) (fun v s' => ∃ t, v = .bool t ∧ Q v s') E s := by
    refine wpAny_call (codeAny_call_builtin PySem.F.cmp_object.ne.plain PySem.F.cmpEntry_ne (@check_slot (model prog w) _ _ s "object.__ne__" "object" "__ne__" (.ref x) [b] [] _ PySem.F.cmpKind_ne PySem.F.cmpSplit_ne (I.type.andThen (looks_subIn X hsub)) (PySem.F.cmpArgs_ne _ _) ?_))
    exact ne_entry (A := A.in1) X I hs hf hu (wpAny_mono hc (fun v s' hv => by obtain ⟨t, rfl, q⟩ := hv; exact ⟨t, rfl, ⟨_, rfl, q⟩⟩) fun _ _ z => z)
  have bd : wpAny (model prog w) A (callSpecialIfBound? (.ref x) "__ne__" [b]) (fun r s' => ∃ t, r = some (.bool t) ∧ Q (.bool t) s') E s := by
    simp only [callSpecialIfBound?, bindSpecialIfBound?]
    refine wpAny_holding (wpAny_bind (wpAny_bind (wpAny_bind (I.type.here ((looks_findIn X hne).here ?_)))))
    refine wpAny_bind (wpAny_askSetting (wpAny_ite ?_))
    have fin : wpAny (model prog w) A (call (.builtin "object.__ne__") ([.ref x] ++ [b]) >>= fun v => pure (some v)) (fun r s' => ∃ t, r = some (.bool t) ∧ Q (.bool t) s') E s := wpAny_bind (wpAny_mono go (fun v s' ⟨t, e, q⟩ => wpAny_pure ⟨t, by rw [e], e ▸ q⟩) fun _ _ z => z)
    have e := PySem.F.cmp_object.ne.bind (.ref x)
    split
    · exact wpAny_bind (wpAny_of_eq e (wpAny_pure (by exact fin)))
    · exact wpAny_tryCatch (wpAny_bind (wpAny_of_eq e (wpAny_pure (by exact fin))))
  refine wpAny_bind (wpAny_mono bd (fun r s' hr => ?_) fun _ _ z => z)
  obtain ⟨t, rfl, q⟩ := hr
  exact wpAny_pure ⟨_, rfl, q⟩
theorem ne_K {Q : Value → Shared → Prop} (hu : A.units + 1 < cLine) (F : Fr h₀ L s.heap m) (X₀ : K.In h₀) (I : InstAt s.heap x ox C od) (hb : Looks (model prog w) s.heap (typeOf b) tb) (hn : notFirst K C tb = true)
    (hne : findIn K (.ref C) "__ne__" = some (some (.builtin "object.__ne__"))) (hsub : subIn K (.ref C) (.type "object") = some true) (hs : findIn K (.ref C) "__eq__" = some (some (.ref f))) (hf : isFn K (.ref f) = true)
    (h : wpAny (model prog w) A.in1 (call (.ref f) [.ref x, b]) (fun v s' => ∃ t, v = .bool t ∧ Q (.bool (!t)) s') E s) : wpAny (model prog w) A (richCompare .NotEq (.ref x) b) Q E s := by
  have X := X₀.keeps F.keep
  have one := ne_try (A := A) (b := b) (Q := Q) X I hne hsub hs hf hu h
  have last : ∀ (r : Option Value) (s' : Shared), (∃ v, r = some v ∧ Q v s') → ∃ v, r = some v ∧ Q v s' := fun _ _ z => z
  unfold richCompare
  simp only [oneThing_ref]
  refine wpAny_holding (wpAny_bind (wpAny_cRoomFor (Nat.lt_of_succ_lt hu) (wpAny_bind (I.type.here (wpAny_bind (hb.here ?_))))))
  split
  · rename_i q
    have e : subIn K tb (.ref C) = some false := (Bool.or_eq_true_iff.mp hn).elim (fun z => by rw [beq_iff_eq.mp z] at q; simp at q) beq_iff_eq.mp
    refine wpAny_bind ((looks_subIn X e).here ?_)
    simp only [Bool.false_eq_true, if_false]
    exact wpAny_bind (wpAny_mono one (fun r s' ⟨v, e, hq⟩ => by subst e; exact wpAny_pure hq) fun _ _ z => z)
  · refine wpAny_bind (wpAny_pure ?_)
    simp only [Bool.false_eq_true, if_false]
    exact wpAny_bind (wpAny_mono one (fun r s' ⟨v, e, hq⟩ => by subst e; exact wpAny_pure hq) fun _ _ z => z)
end
section
variable {X : Cx} {k : Nat} {ps : List Str} {sp : Sp} {C g : Addr} {fd : FuncData}
def rNeOwn (K : PySem.W.Frag) (C : Addr) (sp : Sp) : R2 := fun x y H Q => ∃ a dx fs ty, x = .ref a ∧ H a = some (.ins C dx fs) ∧ TyX K H y ty ∧ PySem.W.notFirst K C ty = true ∧ sp [x, y] H (fun v H' => ∃ t, v = .bl t ∧ Q (.bl (!t)) H') E0
theorem op_neOwn (hne : PySem.W.findIn X.K (.ref C) "__ne__" = some (some (.builtin "object.__ne__"))) (hsub : PySem.W.subIn X.K (.ref C) (.type "object") = some true) (hs : PySem.W.findIn X.K (.ref C) "__eq__" = some (some (.ref g))) (hf : PySem.W.isFn X.K (.ref g) = true)
    (F : FnOk X.prog X.w X.K X.mg X.base CX0 k g fd ps sp) (hb : Binds X.K fd ps []) (hr : Room (k + 1) X.A) : OpR X (compareOp .NotEq) (rNeOwn X.K C sp) := by
  intro pins s σ H x y v u Q I rx ry h
  obtain ⟨a, dx, fs, ty, rfl, ha, hy, hn, q⟩ := h
  cases (show v = Value.ref a from rx)
  obtain ⟨mA, O, _⟩ := ins_get I.hok ha
  obtain ⟨od, J, _⟩ := O.look
  obtain ⟨PH, Z, ph, _⟩ := kit_of I ry hy
  obtain ⟨m, hF⟩ := I.fr
  show wpAny _ _ (richCompare .NotEq (.ref a) u) _ _ _
  refine ne_K (hu_of hr) hF I.ok.mod.kin J (Z.ty _ _ I.kIn ph) hn hne hsub hs hf ?_
  have hl : ([Value.ref a, u] ++ []).length = ps.length := F.len _ _ _ _ q
  have hbb := hb s [.ref a, u] I.kIn hl
  refine wpAny_call (codeAny_mono (F.run X.A.in1 X.stack s H ⟨[.ref a, u], []⟩ [.ref a, u] [.ref a, y] _ E0 hr.in1 I.env0.in1 hbb (.cons rfl (.cons ry .nil)) q) fun z s' hq => ?_)
  match z, hq with
  | .ok (.ret w'), hq =>
    obtain ⟨v', H', I', rv, t, e, qz⟩ := I.after hq
    subst e
    cases (show w' = Value.bool t from rv)
    exact ⟨t, rfl, .bl (!t), H', I', rfl, qz⟩
/-! ### str and repr of an instance -/
def rTextOwn (C : Addr) (sp : Sp) : List V → Hp → VK → Prop := fun vs H Q => ∃ a dx fs, vs = [.ref a] ∧ H a = some (.ins C dx fs) ∧ sp [.ref a] H (fun z H' => ∃ y : Str, z = .str y ∧ Q z H') E0
theorem cr_reprOwn (hs : PySem.W.findIn X.K (.ref C) "__repr__" = some (some (.ref g))) (hf : PySem.W.isFn X.K (.ref g) = true) (F : FnOk X.prog X.w X.K X.mg X.base CX0 k g fd ps sp) (hb : Binds X.K fd ps []) (hr : Room (k + 1) X.A) : CallR X (.builtin "repr") (rTextOwn C sp) := by
  intro pins s σ H vs us Q I r h
  obtain ⟨a, dx, fs, rfl, ha, q⟩ := h
  rw [Vals.ref1 r]
  obtain ⟨mA, O, _⟩ := ins_get I.hok ha
  obtain ⟨od, J, _⟩ := O.look
  obtain ⟨m, hF⟩ := I.fr
  refine PySem.W.repr_K (hu_of hr) hF I.ok.mod.kin J hs hf ?_
  have hl : ([Value.ref a] ++ []).length = ps.length := F.len _ _ _ _ q
  refine wpAny_call (codeAny_mono (F.run X.A.in1 X.stack s H ⟨[.ref a], []⟩ [.ref a] [.ref a] _ E0 hr.in1 I.env0.in1 (hb s [.ref a] I.kIn hl) (.cons rfl .nil) q) fun z s' hq => ?_)
  match z, hq with
  | .ok (.ret w'), hq =>
    obtain ⟨v', H', I', rv, y, e, qz⟩ := I.after hq
    subst e
    obtain ⟨t, e2⟩ := (show ∃ t, w' = Value.str y t from rv)
    subst e2
    exact ⟨.str y, H', I', ⟨t, rfl⟩, qz⟩
theorem cr_strOwn (hs : PySem.W.findIn X.K (.ref C) "__str__" = some (some (.ref g))) (hf : PySem.W.isFn X.K (.ref g) = true) (F : FnOk X.prog X.w X.K X.mg X.base CX0 k g fd ps sp) (hb : Binds X.K fd ps []) (hr : Room (k + 2) X.A) : CallR X (.type "str") (rTextOwn C sp) := by
  intro pins s σ H vs us Q I r h
  obtain ⟨a, dx, fs, rfl, ha, q⟩ := h
  rw [Vals.ref1 r]
  obtain ⟨mA, O, _⟩ := ins_get I.hok ha
  obtain ⟨od, J, _⟩ := O.look
  have hr2 : Room k X.A.in1.in1 := (show Room (k + 1) X.A.in1 from Room.in1 hr).in1
  refine PySem.W.kso_call (by have := hr2.units0; exact this) I.kIn J hs hf ?_
  have hl : ([Value.ref a] ++ []).length = ps.length := F.len _ _ _ _ q
  refine wpAny_call (codeAny_mono (F.run X.A.in1.in1 X.stack s H ⟨[.ref a], []⟩ [.ref a] [.ref a] _ E0 hr2 I.env0.in1.in1 (hb s [.ref a] I.kIn hl) (.cons rfl .nil) q) fun z s' hq => ?_)
  match z, hq with
  | .ok (.ret w'), hq =>
    obtain ⟨v', H', I', rv, y, e, qz⟩ := I.after hq
    subst e
    obtain ⟨t, e2⟩ := (show ∃ t, w' = Value.str y t from rv)
    subst e2
    exact ⟨.str y, H', I', ⟨t, rfl⟩, qz⟩
end
end RL

/-! The mathematics: whole roots, common divisors, the one equation of a number, its sign beside a fraction. -/
namespace RL
/-- small: fewer than 2 ^ n -/
def Sm (n : Nat) (x : Int) : Prop := x.natAbs < 2 ^ n
theorem Sm.mono {m n : Nat} {x : Int} (h : Sm m x) (l : m ≤ n) : Sm n x := Nat.lt_of_lt_of_le h (Nat.pow_le_pow_right (by decide) l)
theorem Sm.mul {m n : Nat} {x y : Int} (h : Sm m x) (k : Sm n y) : Sm (m + n) (x * y) := by
  unfold Sm at *
  rw [Int.natAbs_mul, Nat.pow_add]
  exact Nat.mul_lt_mul'' h k
theorem Sm.add {n : Nat} {x y : Int} (h : Sm n x) (k : Sm n y) : Sm (n + 1) (x + y) := by
  unfold Sm at *
  rw [Nat.pow_succ]
  omega
theorem Sm.sub {n : Nat} {x y : Int} (h : Sm n x) (k : Sm n y) : Sm (n + 1) (x - y) := by
  unfold Sm at *
  rw [Nat.pow_succ]
  omega
theorem Sm.neg {n : Nat} {x : Int} (h : Sm n x) : Sm n (-x) := by
  unfold Sm at *
  omega
theorem Sm.of {n : Nat} {x y : Int} (h : Sm n y) (a : -y ≤ x) (b : x ≤ y) : Sm n x := by
  unfold Sm at *
  omega
theorem Sm.div {n : Nat} {x y : Int} (h : Sm n x) (hy : 0 < y) : Sm n (x / y) := by
  unfold Sm at *
  have h1 : (x / y).natAbs ≤ x.natAbs := by
    rcases Int.le_total 0 x with hx | hx
    · have := Int.ediv_le_self y hx
      have := Int.ediv_nonneg hx (Int.le_of_lt hy)
      omega
    · have h3 : x / y ≤ 0 := by
        have := Int.ediv_le_ediv hy hx
        simpa using this
      have h2 : x ≤ x / y := by
        have h4 : x * y ≤ x := by
          have q := Int.mul_nonneg (a := -x) (b := y - 1) (by omega) (by omega)
          have e : -x * (y - 1) = x - x * y := by grind
          omega
        exact (Int.le_ediv_iff_mul_le hy).mpr h4
      omega
  omega
theorem sm40 {x : Int} (a : -(10 ^ 40) ≤ x) (b : x ≤ 10 ^ 40) : Sm 133 x := by
  unfold Sm
  have : (10 : Int) ^ 40 < 2 ^ 133 := by decide
  have e : ((2 ^ 133 : Nat) : Int) = 2 ^ 133 := by decide
  omega
/-! ### whole roots -/
def IsRt (w r : Int) : Prop := 0 ≤ r ∧ r * r ≤ w ∧ w < (r + 1) * (r + 1)
theorem IsRt.le {w r s : Int} (h : IsRt w r) (k : IsRt w s) : r ≤ s := by
  obtain ⟨h0, h1, h2⟩ := h
  obtain ⟨k0, k1, k2⟩ := k
  rcases Int.lt_or_le s r with l | l
  · have : (s + 1) * (s + 1) ≤ r * r := Int.mul_le_mul (by omega) (by omega) (by omega) (by omega)
    omega
  · exact l
theorem IsRt.eq {w r s : Int} (h : IsRt w r) (k : IsRt w s) : r = s := Int.le_antisymm (h.le k) (k.le h)
def rtN : Nat → Nat
  | 0 => 0
  | n + 1 => if (rtN n + 1) * (rtN n + 1) ≤ n + 1 then rtN n + 1 else rtN n
theorem rtN_is : ∀ n, rtN n * rtN n ≤ n ∧ n < (rtN n + 1) * (rtN n + 1)
  | 0 => ⟨Nat.le_refl _, by decide⟩
  | n + 1 => by
    have ih := rtN_is n
    unfold rtN
    split
    · rename_i h
      refine ⟨h, ?_⟩
      have : (rtN n + 1 + 1) * (rtN n + 1 + 1) = (rtN n + 1) * (rtN n + 1) + 2 * (rtN n + 1) + 1 := by grind
      omega
    · rename_i h
      omega
def rt (w : Int) : Int := (rtN w.toNat : Int)
theorem rt_is {w : Int} (h : 0 ≤ w) : IsRt w (rt w) := by
  have k := rtN_is w.toNat
  have e : (w.toNat : Int) = w := Int.toNat_of_nonneg h
  refine ⟨Int.natCast_nonneg _, ?_, ?_⟩
  · have := Int.ofNat_le.mpr k.1
    rw [Int.natCast_mul, e] at this
    exact this
  · have := Int.ofNat_lt.mpr k.2
    rw [Int.natCast_mul, e, Int.natCast_add] at this
    exact this
theorem rt_of {w r : Int} (h : IsRt w r) : r = rt w := h.eq (rt_is (Int.le_trans (Int.mul_nonneg h.1 h.1) h.2.1))
theorem rt_sm {n : Nat} {w : Int} (h0 : 0 ≤ w) (h : Sm (2 * n) w) : Sm n (rt w) := by
  obtain ⟨a, b, _⟩ := rt_is h0
  unfold Sm at *
  refine Nat.lt_of_not_le fun q => ?_
  have e : (2 : Nat) ^ (2 * n) = 2 ^ n * 2 ^ n := by rw [← Nat.pow_add]; congr 1; omega
  have : 2 ^ n * 2 ^ n ≤ (rt w).natAbs * (rt w).natAbs := Nat.mul_le_mul q q
  have e2 : (rt w * rt w).natAbs = (rt w).natAbs * (rt w).natAbs := Int.natAbs_mul _ _
  have : (rt w * rt w).natAbs ≤ w.natAbs := by
    have := Int.mul_nonneg a a
    omega
  omega
/-- a step of Newton's -/
theorem newton {n g : Int} (hn : 0 ≤ n) (hg : 0 ≤ g) (h : n < (g + 1) * (g + 1)) (l : n < g * g) :
    0 < g ∧ 0 ≤ (g + n / g) / 2 ∧ (g + n / g) / 2 < g ∧ n < ((g + n / g) / 2 + 1) * ((g + n / g) / 2 + 1) := by
  have g0 : 0 < g := by
    rcases Int.lt_or_le 0 g with q | q
    · exact q
    · have : g = 0 := by omega
      subst this
      omega
  have q0 : 0 ≤ n / g := Int.ediv_nonneg hn hg
  have q1 : n < g * (n / g + 1) := by
    have := Int.lt_mul_ediv_self_add (x := n) (k := g) g0
    rw [Int.mul_add, Int.mul_one]
    exact this
  have q2 : n / g < g := Int.ediv_lt_of_lt_mul g0 l
  generalize n / g = q at *
  have hm : g + q ≤ 2 * ((g + q) / 2) + 1 := by omega
  have h0 : 0 ≤ (g + q) / 2 := by omega
  have h1 : (g + q) / 2 < g := by omega
  generalize (g + q) / 2 = m at *
  refine ⟨g0, h0, h1, ?_⟩
  have a1 : (g + q + 1) * (g + q + 1) ≤ (2 * (m + 1)) * (2 * (m + 1)) := Int.mul_le_mul (by omega) (by omega) (by omega) (by omega)
  have a2 : 0 ≤ (g - q - 1) * (g - q - 1) := by
    rcases Int.le_total 0 (g - q - 1) with z | z
    · exact Int.mul_nonneg z z
    · exact Int.mul_nonneg_of_nonpos_of_nonpos z z
  have a3 : (g + q + 1) * (g + q + 1) = 4 * (g * (q + 1)) + (g - q - 1) * (g - q - 1) := by grind
  have a4 : (2 * (m + 1)) * (2 * (m + 1)) = 4 * ((m + 1) * (m + 1)) := by grind
  omega
/-! ### common divisors -/
def gc (a b : Int) : Int := (Int.gcd a b : Int)
theorem gc_nonneg (a b : Int) : 0 ≤ gc a b := Int.natCast_nonneg _
theorem gc_pos {a b : Int} (h : a ≠ 0 ∨ b ≠ 0) : 0 < gc a b := by
  unfold gc
  have : 0 < Int.gcd a b := by
    rcases Nat.eq_zero_or_pos (Int.gcd a b) with z | z
    · rw [Int.gcd_eq_zero_iff] at z
      omega
    · exact z
  omega
theorem gc_dvd1 (a b : Int) : gc a b ∣ a := Int.gcd_dvd_left ..
theorem gc_dvd2 (a b : Int) : gc a b ∣ b := Int.gcd_dvd_right ..
theorem gc_zero {a : Int} (h : 0 ≤ a) : gc a 0 = a := by
  unfold gc
  rw [Int.gcd_zero_right]
  omega
theorem gc_step {a b : Int} (ha : 0 ≤ a) (hb : 0 < b) : gc b (a % b) = gc a b := by
  obtain ⟨n, rfl⟩ := Int.eq_ofNat_of_zero_le ha
  obtain ⟨m, rfl⟩ := Int.eq_ofNat_of_zero_le (Int.le_of_lt hb)
  unfold gc
  congr 1
  rw [← Int.natCast_emod, Int.gcd_natCast_natCast, Int.gcd_natCast_natCast, Nat.gcd_comm, ← Nat.gcd_rec, Nat.gcd_comm]
theorem gc_abs (a b : Int) : gc (if a < 0 then -a else a) (if b < 0 then -b else b) = gc a b := by
  unfold gc
  congr 1
  split <;> split <;> simp
theorem gc_abs2 (a b : Int) : gc a (if b < 0 then -b else b) = gc a b := by
  unfold gc
  congr 1
  split <;> simp
theorem ex_mul {g a : Int} (h : g ∣ a) (hg : 0 < g) : a = g * (a / g) := (Int.mul_ediv_cancel' h).symm
/-! ### the one equation of a number -/
/-- the parts of an equation that is accepted -/
def Good (a b c : Int) : Prop := (a = 0 ∧ 1 ≤ b ∧ 0 ≤ c) ∨ (1 ≤ a ∧ 1 ≤ c)
structure Nrm (a b c s l w : Int) : Prop where
  good : Good s l w
  /-- the sign beside x / y -/
  sgn : ∀ x y : Int, 0 ≤ x → 1 ≤ y → (0 < w * y * y - l * x * y - s * x * x ↔ a * x * x + b * x * y - c * y * y < 0) ∧ (w * y * y - l * x * y - s * x * x = 0 ↔ a * x * x + b * x * y - c * y * y = 0)
/-- multiplied by a number above 0 -/
theorem pos_iff {k u : Int} (hk : 0 < k) : (0 < k * u ↔ 0 < u) ∧ (k * u = 0 ↔ u = 0) := by
  refine ⟨⟨fun h => ?_, fun h => Int.mul_pos hk h⟩, ⟨fun h => ?_, fun h => by rw [h, Int.mul_zero]⟩⟩
  · rcases Int.lt_or_le 0 u with z | z
    · exact z
    · have := Int.mul_nonpos_of_nonneg_of_nonpos (Int.le_of_lt hk) z
      omega
  · rcases Int.mul_eq_zero.mp h with z | z
    · omega
    · exact z
theorem nrm_div {a b c g : Int} (h : Good a b c) (hg : 0 < g) (da : g ∣ a) (db : g ∣ b) (dc : g ∣ c) : Nrm a b c (a / g) (b / g) (c / g) := by
  have ea := ex_mul da hg
  have eb := ex_mul db hg
  have ec := ex_mul dc hg
  generalize a / g = s at *
  generalize b / g = l at *
  generalize c / g = w at *
  subst ea eb ec
  refine ⟨?_, fun x y hx hy => ?_⟩
  · rcases h with ⟨h1, h2, h3⟩ | ⟨h1, h2⟩
    · refine .inl ⟨((pos_iff hg).2.mp h1), ?_, ?_⟩
      · have := (pos_iff (u := l) hg).1.mp (by omega)
        omega
      · rcases Int.lt_or_le w 0 with z | z
        · have := Int.mul_neg_of_pos_of_neg hg z
          omega
        · exact z
    · refine .inr ⟨?_, ?_⟩
      · have := (pos_iff (u := s) hg).1.mp (by omega)
        omega
      · have := (pos_iff (u := w) hg).1.mp (by omega)
        omega
  · have e : g * s * x * x + g * l * x * y - g * w * y * y = -(g * (w * y * y - l * x * y - s * x * x)) := by grind
    rw [e]
    have := pos_iff (k := g) (u := w * y * y - l * x * y - s * x * x) hg
    refine ⟨?_, ?_⟩
    · rw [← this.1]; omega
    · rw [← this.2]; omega
theorem rt_gt {b t r : Int} (ht : 0 < t) (hr : 0 ≤ r) (e : b * b + t = r * r) : 0 < r + b ∧ 0 < r - b := by
  refine ⟨?_, ?_⟩
  · rcases Int.lt_or_le 0 (r + b) with z | z
    · exact z
    · have h1 : 0 ≤ (-b - r) * (-b + r) := Int.mul_nonneg (by omega) (by omega)
      have h2 : (-b - r) * (-b + r) = b * b - r * r := by grind
      omega
  · rcases Int.lt_or_le 0 (r - b) with z | z
    · exact z
    · have h1 : 0 ≤ (b - r) * (b + r) := Int.mul_nonneg (by omega) (by omega)
      have h2 : (b - r) * (b + r) = b * b - r * r := by grind
      omega
theorem nrm_root {a b c r g : Int} (ha : 1 ≤ a) (hc : 1 ≤ c) (hr : 0 ≤ r) (e : b * b + 4 * a * c = r * r) (hg : 0 < g) (d1 : g ∣ r - b) (d2 : g ∣ 2 * a) : Nrm a b c 0 (2 * a / g) ((r - b) / g) := by
  have hac : 0 < 4 * a * c := Int.mul_pos (by omega) (by omega)
  obtain ⟨p1, p2⟩ := rt_gt hac hr e
  have e1 := ex_mul d1 hg
  have e2 := ex_mul d2 hg
  have l0 : 1 ≤ 2 * a / g := by
    have := (pos_iff (u := 2 * a / g) hg).1.mp (by omega)
    omega
  have w0 : 1 ≤ (r - b) / g := by
    have := (pos_iff (u := (r - b) / g) hg).1.mp (by omega)
    omega
  generalize 2 * a / g = l at *
  generalize (r - b) / g = w at *
  refine ⟨.inl ⟨rfl, l0, by omega⟩, fun x y hx hy => ?_⟩
  have k : 0 < r * y + b * y + 2 * a * x := by
    have h1 : 0 < (r + b) * y := Int.mul_pos p1 (by omega)
    have h2 : 0 ≤ 2 * a * x := Int.mul_nonneg (by omega) hx
    have h3 : (r + b) * y = r * y + b * y := by grind
    omega
  have y0 : 0 < y := by omega
  -- y * g * (w y - l x) = y * ((r - b) y - 2 a x)
  have f1 : g * (w * y * y - l * x * y - 0 * x * x) = y * ((r - b) * y - 2 * a * x) := by
    rw [e1, e2]; grind
  have f2 : 4 * a * (c * y * y - a * x * x - b * x * y) = (r * y + b * y + 2 * a * x) * ((r - b) * y - 2 * a * x) := by grind
  have q1 := pos_iff (u := w * y * y - l * x * y - 0 * x * x) hg
  have q2 := pos_iff (u := (r - b) * y - 2 * a * x) y0
  have q3 := pos_iff (k := 4 * a) (u := c * y * y - a * x * x - b * x * y) (by omega)
  have q4 := pos_iff (u := (r - b) * y - 2 * a * x) k
  rw [f1] at q1
  rw [f2] at q3
  refine ⟨?_, ?_⟩
  · rw [← q1.1, q2.1, ← q4.1, q3.1]; omega
  · rw [← q1.2, q2.2, ← q4.2, q3.2]; omega
/-- what the program keeps of an equation -/
def parts (a b c : Int) : Int × Int × Int :=
  if a = 0 then (0, b / gc c b, c / gc c b)
  else if rt (b * b + 4 * a * c) * rt (b * b + 4 * a * c) = b * b + 4 * a * c then
    (0, 2 * a / gc (rt (b * b + 4 * a * c) - b) (2 * a), (rt (b * b + 4 * a * c) - b) / gc (rt (b * b + 4 * a * c) - b) (2 * a))
  else (a / gc (gc a b) c, b / gc (gc a b) c, c / gc (gc a b) c)
theorem inside_pos {a b c : Int} (h : 1 ≤ a ∧ 1 ≤ c) : 0 < 4 * a * c ∧ 0 ≤ b * b + 4 * a * c := by
  have hac : 0 < 4 * a * c := Int.mul_pos (by omega) (by omega)
  have hb : 0 ≤ b * b := by
    rcases Int.le_total 0 b with z | z
    · exact Int.mul_nonneg z z
    · exact Int.mul_nonneg_of_nonpos_of_nonpos z z
  omega
theorem parts_nrm {a b c : Int} (h : Good a b c) : Nrm a b c (parts a b c).1 (parts a b c).2.1 (parts a b c).2.2 := by
  unfold parts
  rcases h with ⟨rfl, h2, h3⟩ | h
  · rw [if_pos rfl]
    have g0 : 0 < gc c b := gc_pos (.inr (by omega))
    have := nrm_div (a := 0) (b := b) (c := c) (.inl ⟨rfl, h2, h3⟩) g0 (Int.dvd_zero _) (gc_dvd2 _ _) (gc_dvd1 _ _)
    rw [Int.zero_ediv] at this
    exact this
  · rw [if_neg (by omega)]
    have k := inside_pos (b := b) h
    split
    · rename_i e
      exact nrm_root h.1 h.2 (rt_is k.2).1 e.symm (gc_pos (.inr (by omega))) (gc_dvd1 _ _) (gc_dvd2 _ _)
    · exact nrm_div (.inr h) (gc_pos (.inr (by omega))) (Int.dvd_trans (gc_dvd1 _ _) (gc_dvd1 _ _)) (Int.dvd_trans (gc_dvd1 _ _) (gc_dvd2 _ _)) (gc_dvd2 _ _)
theorem parts_sm {a b c : Int} (h : Good a b c) (ha : Sm 133 a) (hb : Sm 133 b) (hc : Sm 133 c) : Sm 150 (parts a b c).1 ∧ Sm 150 (parts a b c).2.1 ∧ Sm 150 (parts a b c).2.2 := by
  unfold parts
  rcases h with ⟨rfl, h2, h3⟩ | h
  · rw [if_pos rfl]
    have g0 : 0 < gc c b := gc_pos (.inr (by omega))
    exact ⟨show Sm 150 0 by unfold Sm; decide, (hb.div g0).mono (by decide), (hc.div g0).mono (by decide)⟩
  · rw [if_neg (by omega)]
    have k := inside_pos (b := b) h
    have hd : Sm 270 (b * b + 4 * a * c) := by
      have h4 : Sm 3 4 := by unfold Sm; decide
      have e1 : Sm (133 + 133) (b * b) := hb.mul hb
      have e2 : Sm (3 + 133 + 133) (4 * a * c) := (h4.mul ha).mul hc
      exact (Sm.add (n := 269) (e1.mono (by decide)) (e2.mono (by decide)))
    have hr : Sm 135 (rt (b * b + 4 * a * c)) := rt_sm (n := 135) k.2 hd
    have h2 : Sm 2 2 := by unfold Sm; decide
    split
    · have g0 : 0 < gc (rt (b * b + 4 * a * c) - b) (2 * a) := gc_pos (.inr (by omega))
      refine ⟨show Sm 150 0 by unfold Sm; decide, ?_, ?_⟩
      · exact ((h2.mul ha).div g0).mono (by decide)
      · exact ((hr.sub (hb.mono (by decide))).div g0).mono (by decide)
    · have g0 : 0 < gc (gc a b) c := gc_pos (.inr (by omega))
      exact ⟨(ha.div g0).mono (by decide), (hb.div g0).mono (by decide), (hc.div g0).mono (by decide)⟩
/-! ### beside a fraction -/
def sg (n : Int) : Int := if 0 < n then 1 else if n < 0 then -1 else 0
/-- the law's side -/
def side (a b c x y : Int) : Int := if y = 0 then -1 else sg (-(a * x * x + b * x * y - c * y * y))
def beside (s l w x y : Int) : Int := sg (w * y * y - l * x * y - s * x * x)
theorem Nrm.side {a b c s l w x y : Int} (h : Nrm a b c s l w) (hx : 0 ≤ x) (hy : 1 ≤ y) : beside s l w x y = RL.side a b c x y := by
  obtain ⟨k1, k2⟩ := h.sgn x y hx hy
  unfold beside RL.side sg
  rw [if_neg (show ¬ y = 0 by omega)]
  generalize w * y * y - l * x * y - s * x * x = u at *
  generalize a * x * x + b * x * y - c * y * y = v at *
  by_cases p : 0 < u
  · have := k1.mp p
    rw [if_pos p, if_pos (by omega)]
  · by_cases q : u = 0
    · have := k2.mp q
      rw [if_neg p, if_neg (by omega), if_neg (by omega), if_neg (by omega)]
    · have : ¬ v < 0 := fun z => p (k1.mpr z)
      have : ¬ v = 0 := fun z => q (k2.mpr z)
      rw [if_neg p, if_pos (by omega), if_neg (by omega), if_pos (by omega)]
/-- the same fraction written otherwise -/
theorem side_same {a b c x y k : Int} (hk : 1 ≤ k) (hy : 1 ≤ y) : RL.side a b c (k * x) (k * y) = RL.side a b c x y := by
  unfold RL.side
  have h0 : ¬ k * y = 0 := by
    have := Int.mul_pos (a := k) (b := y) (by omega) (by omega)
    omega
  rw [if_neg h0, if_neg (show ¬ y = 0 by omega)]
  have kk : 0 < k * k := Int.mul_pos (by omega) (by omega)
  have e : -(a * (k * x) * (k * x) + b * (k * x) * (k * y) - c * (k * y) * (k * y)) = k * k * (-(a * x * x + b * x * y - c * y * y)) := by grind
  rw [e]
  generalize -(a * x * x + b * x * y - c * y * y) = u
  have q := pos_iff (u := u) kk
  unfold sg
  by_cases p : 0 < u
  · rw [if_pos p, if_pos (q.1.mpr p)]
  · by_cases z : u = 0
    · subst z
      rw [Int.mul_zero]
    · have h1 : ¬ 0 < k * k * u := fun t => p (q.1.mp t)
      have h2 : ¬ k * k * u = 0 := fun t => z (q.2.mp t)
      rw [if_neg p, if_pos (show u < 0 by omega), if_neg h1, if_pos (show k * k * u < 0 by omega)]
/-! ### floors -/
def flo (s l w t : Int) : Int := if s = 0 then t * w / l else (rt (t * t * (l * l + 4 * s * w)) - t * l) / (2 * s)
theorem flo_is {s l w t : Int} (h : Good s l w) (ht : 1 ≤ t) : 0 ≤ flo s l w t ∧ 0 ≤ beside s l w (flo s l w t) t ∧ beside s l w (flo s l w t + 1) t = -1 := by
  have sgp : ∀ n : Int, 0 ≤ n → 0 ≤ sg n := fun n hn => by
    unfold sg
    split
    · decide
    · split
      · omega
      · decide
  have sgn : ∀ n : Int, n < 0 → sg n = -1 := fun n hn => by
    unfold sg
    rw [if_neg (by omega), if_pos hn]
  unfold flo
  rcases h with ⟨rfl, h2, h3⟩ | h
  · rw [if_pos rfl]
    have l0 : 0 < l := by omega
    have d1 := Int.mul_ediv_self_le (x := t * w) (k := l) (by omega)
    have d2 := Int.lt_mul_ediv_self_add (x := t * w) (k := l) l0
    have d0 : 0 ≤ t * w / l := Int.ediv_nonneg (Int.mul_nonneg (by omega) h3) (by omega)
    generalize t * w / l = q at *
    refine ⟨d0, sgp _ ?_, sgn _ ?_⟩
    · have : w * t * t - l * q * t - 0 * q * q = t * (t * w - l * q) := by grind
      rw [this]
      exact Int.mul_nonneg (by omega) (by omega)
    · have : w * t * t - l * (q + 1) * t - 0 * (q + 1) * (q + 1) = -(t * (l * q + l - t * w)) := by grind
      rw [this]
      have := Int.mul_pos (a := t) (b := l * q + l - t * w) (by omega) (by omega)
      omega
  · rw [if_neg (by omega)]
    have hsw : 0 < 4 * s * w := Int.mul_pos (by omega) (by omega)
    have ll : 0 ≤ l * l := by
      rcases Int.le_total 0 l with z | z
      · exact Int.mul_nonneg z z
      · exact Int.mul_nonneg_of_nonpos_of_nonpos z z
    have w0 : 0 ≤ t * t * (l * l + 4 * s * w) := Int.mul_nonneg (Int.mul_nonneg (by omega) (by omega)) (by omega)
    obtain ⟨r0, r1, r2⟩ := rt_is w0
    generalize er : rt (t * t * (l * l + 4 * s * w)) = r at *
    -- r is at least t * l either way
    have rl : -r ≤ t * l ∧ t * l ≤ r := by
      have h0 : t * l * (t * l) ≤ t * t * (l * l + 4 * s * w) := by
        have e : t * t * (l * l + 4 * s * w) = t * l * (t * l) + t * t * (4 * s * w) := by grind
        have := Int.mul_nonneg (a := t * t) (b := 4 * s * w) (Int.mul_nonneg (by omega) (by omega)) (by omega)
        omega
      refine ⟨?_, ?_⟩
      · rcases Int.lt_or_le (t * l) (-r) with z | z
        · have : (r + 1) * (r + 1) ≤ (-(t * l)) * (-(t * l)) := Int.mul_le_mul (by omega) (by omega) (by omega) (by omega)
          have e : (-(t * l)) * (-(t * l)) = t * l * (t * l) := by grind
          omega
        · exact z
      · rcases Int.lt_or_le r (t * l) with z | z
        · have : (r + 1) * (r + 1) ≤ (t * l) * (t * l) := Int.mul_le_mul (by omega) (by omega) (by omega) (by omega)
          omega
        · exact z
    have s0 : 0 < 2 * s := by omega
    have d1 := Int.mul_ediv_self_le (x := r - t * l) (k := 2 * s) (by omega)
    have d2 := Int.lt_mul_ediv_self_add (x := r - t * l) (k := 2 * s) s0
    have d0 : 0 ≤ (r - t * l) / (2 * s) := Int.ediv_nonneg (by omega) (by omega)
    generalize (r - t * l) / (2 * s) = q at *
    have f : ∀ z : Int, 4 * s * (w * t * t - l * z * t - s * z * z) = t * t * (l * l + 4 * s * w) - (2 * s * z + t * l) * (2 * s * z + t * l) := fun z => by grind
    have sp : 0 < 4 * s := by omega
    refine ⟨d0, sgp _ ?_, sgn _ ?_⟩
    · have u1 : 0 ≤ 2 * s * q := Int.mul_nonneg (by omega) d0
      have u2 : (2 * s * q + t * l) * (2 * s * q + t * l) ≤ r * r := by
        rcases Int.le_total 0 (2 * s * q + t * l) with z | z
        · exact Int.mul_le_mul (by omega) (by omega) (by omega) (by omega)
        · have := Int.mul_le_mul (a := -(2 * s * q + t * l)) (b := -(2 * s * q + t * l)) (c := r) (d := r) (by omega) (by omega) (by omega) (by omega)
          have e : (-(2 * s * q + t * l)) * (-(2 * s * q + t * l)) = (2 * s * q + t * l) * (2 * s * q + t * l) := by grind
          omega
      have u3 := f q
      have u4 := pos_iff (u := w * t * t - l * q * t - s * q * q) sp
      rcases Int.lt_or_le (w * t * t - l * q * t - s * q * q) 0 with z | z
      · have := Int.mul_neg_of_pos_of_neg sp z
        omega
      · exact z
    · have u0 : 2 * s * (q + 1) = 2 * s * q + 2 * s := by grind
      have u2 : (r + 1) * (r + 1) ≤ (2 * s * (q + 1) + t * l) * (2 * s * (q + 1) + t * l) := Int.mul_le_mul (by omega) (by omega) (by omega) (by omega)
      have u3 := f (q + 1)
      rcases Int.lt_or_le (w * t * t - l * (q + 1) * t - s * (q + 1) * (q + 1)) 0 with z | z
      · exact z
      · have := Int.mul_nonneg (Int.le_of_lt sp) z
        omega
end RL

/-! The order of two numbers: by the program's signs, and that unlike small ones differ within thirty figures. -/
namespace RL
theorem sq_nn (x : Int) : 0 ≤ x * x := by
  rcases Int.le_total 0 x with z | z
  · exact Int.mul_nonneg z z
  · exact Int.mul_nonneg_of_nonpos_of_nonpos z z
/-- above 0 just if the number is greater than x / y -/
def Fv (s l w x y : Int) : Int := w * y * y - l * x * y - s * x * x
/-- further right it stays less -/
theorem fv_down {s l w x y x' y' : Int} (g : Good s l w) (hx : 0 ≤ x) (hy : 1 ≤ y) (hx' : 0 ≤ x') (hy' : 1 ≤ y') (h : Fv s l w x y < 0) (c : x * y' ≤ x' * y) : Fv s l w x' y' < 0 := by
  refine Classical.byContradiction fun q => ?_
  have yy : 0 < y * y' := Int.mul_pos (by omega) (by omega)
  have h1 : y' * y' * Fv s l w x y = w * (y * y') * (y * y') - l * (x * y') * (y * y') - s * (x * y') * (x * y') := by unfold Fv; grind
  have h2 : y * y * Fv s l w x' y' = w * (y * y') * (y * y') - l * (x' * y) * (y * y') - s * (x' * y) * (x' * y) := by unfold Fv; grind
  have k1 : y' * y' * Fv s l w x y < 0 := Int.mul_neg_of_pos_of_neg (Int.mul_pos (by omega) (by omega)) h
  have k2 : 0 ≤ y * y * Fv s l w x' y' := Int.mul_nonneg (sq_nn y) (by omega)
  have u0 : 0 ≤ x * y' := Int.mul_nonneg hx (by omega)
  generalize x * y' = u at *
  generalize x' * y = v at *
  generalize y * y' = Y at *
  have d : (v - u) * (l * Y + s * (u + v)) = l * v * Y + s * v * v - (l * u * Y + s * u * u) := by grind
  have k3 : (v - u) * (l * Y + s * (u + v)) < 0 := by omega
  have k4 : 0 < v - u := by
    rcases Int.lt_or_le 0 (v - u) with z | z
    · exact z
    · have : v - u = 0 := by omega
      rw [this, Int.zero_mul] at k3
      omega
  have k5 : l * Y + s * (u + v) < 0 := by
    refine Classical.byContradiction fun z => ?_
    have := Int.mul_nonneg (Int.le_of_lt k4) (Int.not_lt.mp z)
    omega
  rcases g with ⟨rfl, l0, w0⟩ | ⟨s0, w0⟩
  · have := Int.mul_pos (a := l) (b := Y) (by omega) yy
    omega
  · have e : u * (l * Y + s * u) = l * u * Y + s * u * u := by grind
    have p : 0 < w * Y * Y := Int.mul_pos (Int.mul_pos (by omega) yy) yy
    have k6 : 0 < u * (l * Y + s * u) := by omega
    have k7 : 0 < l * Y + s * u := by
      refine Classical.byContradiction fun z => ?_
      have := Int.mul_nonpos_of_nonneg_of_nonpos u0 (Int.not_lt.mp z)
      omega
    have k8 : 0 ≤ s * v := Int.mul_nonneg (by omega) (by omega)
    have e2 : s * (u + v) = s * u + s * v := by grind
    omega
theorem fv_down' {s l w x y x' y' : Int} (g : Good s l w) (hx : 0 ≤ x) (hy : 1 ≤ y) (hx' : 0 ≤ x') (hy' : 1 ≤ y') (h : Fv s l w x y ≤ 0) (c : x * y' < x' * y) : Fv s l w x' y' < 0 := by
  refine Classical.byContradiction fun q => ?_
  have yy : 0 < y * y' := Int.mul_pos (by omega) (by omega)
  have h1 : y' * y' * Fv s l w x y = w * (y * y') * (y * y') - l * (x * y') * (y * y') - s * (x * y') * (x * y') := by unfold Fv; grind
  have h2 : y * y * Fv s l w x' y' = w * (y * y') * (y * y') - l * (x' * y) * (y * y') - s * (x' * y) * (x' * y) := by unfold Fv; grind
  have k1 : y' * y' * Fv s l w x y ≤ 0 := Int.mul_nonpos_of_nonneg_of_nonpos (sq_nn y') h
  have k2 : 0 ≤ y * y * Fv s l w x' y' := Int.mul_nonneg (sq_nn y) (by omega)
  have u0 : 0 ≤ x * y' := Int.mul_nonneg hx (by omega)
  generalize x * y' = u at *
  generalize x' * y = v at *
  generalize y * y' = Y at *
  have d : (v - u) * (l * Y + s * (u + v)) = l * v * Y + s * v * v - (l * u * Y + s * u * u) := by grind
  have k3 : (v - u) * (l * Y + s * (u + v)) ≤ 0 := by omega
  have k4 : 0 < v - u := by omega
  have k5 : l * Y + s * (u + v) ≤ 0 := by
    refine Classical.byContradiction fun z => ?_
    have := Int.mul_pos k4 (Int.not_le.mp z)
    omega
  rcases g with ⟨rfl, l0, w0⟩ | ⟨s0, w0⟩
  · have := Int.mul_pos (a := l) (b := Y) (by omega) yy
    omega
  · have e : u * (l * Y + s * u) = l * u * Y + s * u * u := by grind
    have p : 0 < w * Y * Y := Int.mul_pos (Int.mul_pos (by omega) yy) yy
    have k6 : 0 < u * (l * Y + s * u) := by omega
    have k7 : 0 < l * Y + s * u := by
      refine Classical.byContradiction fun z => ?_
      have := Int.mul_nonpos_of_nonneg_of_nonpos u0 (Int.not_lt.mp z)
      omega
    have k8 : 0 ≤ s * v := Int.mul_nonneg (by omega) (by omega)
    have e2 : s * (u + v) = s * u + s * v := by grind
    omega
/-- further left it stays greater -/
theorem fv_up {s l w x y x' y' : Int} (g : Good s l w) (hx : 0 ≤ x) (hy : 1 ≤ y) (hx' : 0 ≤ x') (hy' : 1 ≤ y') (h : 0 ≤ Fv s l w x y) (c : x' * y < x * y') : 0 < Fv s l w x' y' := by
  refine Classical.byContradiction fun q => ?_
  have := fv_down' g hx' hy' hx hy (Int.not_lt.mp q) c
  omega
/-! ### the program's order -/
def sal0 (s l w sl h : Int) : Int := if sl = 0 ∨ h < 0 then sg (-h) else beside s l w h sl
def sal (s l w sl h : Int) : Int := if sl < 0 then -(sal0 s l w (-sl) (-h)) else sal0 s l w sl h
def ord (s l w s' l' w' : Int) : Int := if s' = 0 then beside s l w w' l' else -(sal s' l' w' (l * s' - l' * s) (w * s' - w' * s))
theorem sg_neg {n : Int} (h : n < 0) : sg n = -1 := by unfold sg; rw [if_neg (by omega), if_pos h]
theorem sg_pos {n : Int} (h : 0 < n) : sg n = 1 := by unfold sg; rw [if_pos h]
theorem sg_zero : sg 0 = 0 := by decide
theorem lin {s l w s' l' w' x y : Int} : s * Fv s' l' w' x y - s' * Fv s l w x y = y * ((l * s' - l' * s) * x - (w * s' - w' * s) * y) := by unfold Fv; grind
theorem lin0 {s l w s' l' w' : Int} : s' * Fv s l w (w * s' - w' * s) (l * s' - l' * s) = s * Fv s' l' w' (w * s' - w' * s) (l * s' - l' * s) := by unfold Fv; grind
theorem lin0' {s l w s' l' w' : Int} : s' * Fv s l w (-(w * s' - w' * s)) (-(l * s' - l' * s)) = s * Fv s' l' w' (-(w * s' - w' * s)) (-(l * s' - l' * s)) := by unfold Fv; grind
theorem ord_lt {s l w s' l' w' x y : Int} (g : Good s l w) (g' : Good s' l' w') (hx : 0 ≤ x) (hy : 1 ≤ y) (h : Fv s l w x y < 0) (h' : 0 ≤ Fv s' l' w' x y) : ord s l w s' l' w' = -1 := by
  unfold ord
  split
  · rename_i z
    subst z
    rcases g' with ⟨_, l0, w0⟩ | ⟨z, _⟩
    · refine sg_neg (fv_down g hx hy w0 l0 h ?_)
      have e : Fv 0 l' w' x y = y * (w' * y - l' * x) := by unfold Fv; grind
      rw [e] at h'
      have : 0 ≤ w' * y - l' * x := by
        refine Classical.byContradiction fun z => ?_
        have := Int.mul_neg_of_pos_of_neg (a := y) (by omega) (Int.not_le.mp z)
        omega
      have e2 : x * l' = l' * x := Int.mul_comm _ _
      omega
    · omega
  · rename_i z
    have g2 := g'
    rcases g' with g' | ⟨s0', w0'⟩
    · exact absurd g'.1 z
    have s0 : 0 ≤ s := by rcases g with g | g <;> omega
    -- the line at x / y
    have L : 0 < (l * s' - l' * s) * x - (w * s' - w' * s) * y := by
      have e := lin (s := s) (l := l) (w := w) (s' := s') (l' := l') (w' := w') (x := x) (y := y)
      have a1 : 0 ≤ s * Fv s' l' w' x y := Int.mul_nonneg s0 h'
      have a2 : s' * Fv s l w x y < 0 := Int.mul_neg_of_pos_of_neg (by omega) h
      refine Classical.byContradiction fun q => ?_
      have := Int.mul_nonpos_of_nonneg_of_nonpos (a := y) (by omega) (Int.not_lt.mp q)
      omega
    have e0 := lin0 (s := s) (l := l) (w := w) (s' := s') (l' := l') (w' := w')
    have e0' := lin0' (s := s) (l := l) (w := w) (s' := s') (l' := l') (w' := w')
    generalize l * s' - l' * s = sl at *
    generalize w * s' - w' * s = hh at *
    have goal1 : sal s' l' w' sl hh = 1 := by
      unfold sal sal0
      split
      · rename_i q
        -- falling line
        have m1 : sl * x ≤ 0 := Int.mul_nonpos_of_nonpos_of_nonneg (by omega) hx
        have h0 : hh < 0 := by
          refine Classical.byContradiction fun t => ?_
          have := Int.mul_nonneg (a := hh) (b := y) (by omega) (by omega)
          omega
        rw [if_neg (by omega)]
        have c : x * -sl < -hh * y := by
          have e1 : x * -sl = -(sl * x) := by grind
          have e2 : -hh * y = -(hh * y) := by grind
          omega
        have f1 := fv_down g hx hy (show 0 ≤ -hh by omega) (show 1 ≤ -sl by omega) h (Int.le_of_lt c)
        have f2 : s * Fv s' l' w' (-hh) (-sl) < 0 := by
          rw [← e0']
          exact Int.mul_neg_of_pos_of_neg (by omega) f1
        have f3 : Fv s' l' w' (-hh) (-sl) < 0 := by
          refine Classical.byContradiction fun t => ?_
          have := Int.mul_nonneg s0 (Int.not_lt.mp t)
          omega
        have f4 : beside s' l' w' (-hh) (-sl) = -1 := sg_neg f3
        rw [f4]
        decide
      · rename_i q
        split
        · rename_i t
          refine sg_pos ?_
          rcases t with t | t
          · subst t
            rw [Int.zero_mul] at L
            refine Classical.byContradiction fun r => ?_
            have := Int.mul_nonneg (a := hh) (b := y) (by omega) (by omega)
            omega
          · omega
        · rename_i t
          refine sg_pos (fv_up g2 hx hy (by omega) (by omega) h' ?_)
          have e1 : x * sl = sl * x := Int.mul_comm _ _
          omega
    rw [goal1]
theorem ord_gt {s l w s' l' w' x y : Int} (g : Good s l w) (g' : Good s' l' w') (hx : 0 ≤ x) (hy : 1 ≤ y) (h : Fv s l w x y < 0) (h' : 0 ≤ Fv s' l' w' x y) : ord s' l' w' s l w = 1 := by
  unfold ord
  split
  · rename_i z
    subst z
    rcases g with ⟨_, l0, w0⟩ | ⟨z, _⟩
    · refine sg_pos (fv_up g' hx hy w0 l0 h' ?_)
      have e : Fv 0 l w x y = y * (w * y - l * x) := by unfold Fv; grind
      rw [e] at h
      have : w * y - l * x < 0 := by
        refine Classical.byContradiction fun z => ?_
        have := Int.mul_nonneg (a := y) (by omega) (Int.not_lt.mp z)
        omega
      have e2 : x * l = l * x := Int.mul_comm _ _
      omega
    · omega
  · rename_i z
    have g2 := g
    rcases g with g | ⟨s0, w0⟩
    · exact absurd g.1 z
    have s0' : 0 ≤ s' := by rcases g' with g | g <;> omega
    have goal1 : sal s l w (l' * s - l * s') (w' * s - w * s') = -1 := by
      rcases Int.lt_or_le 0 s' with sp | sp
      · have L : (l' * s - l * s') * x < (w' * s - w * s') * y := by
          have e := lin (s := s) (l := l) (w := w) (s' := s') (l' := l') (w' := w') (x := x) (y := y)
          have a1 : 0 ≤ s * Fv s' l' w' x y := Int.mul_nonneg (by omega) h'
          have a2 : s' * Fv s l w x y < 0 := Int.mul_neg_of_pos_of_neg sp h
          have a3 : 0 < (l * s' - l' * s) * x - (w * s' - w' * s) * y := by
            refine Classical.byContradiction fun q => ?_
            have := Int.mul_nonpos_of_nonneg_of_nonpos (a := y) (by omega) (Int.not_lt.mp q)
            omega
          have e1 : (l * s' - l' * s) * x = -((l' * s - l * s') * x) := by grind
          have e2 : (w * s' - w' * s) * y = -((w' * s - w * s') * y) := by grind
          omega
        have e0 := lin0' (s := s') (l := l') (w := w') (s' := s) (l' := l) (w' := w)
        generalize l' * s - l * s' = sl at *
        generalize w' * s - w * s' = hh at *
        unfold sal sal0
        split
        · rename_i q
          have goal2 : (if -sl = 0 ∨ -hh < 0 then sg (- -hh) else beside s l w (-hh) (-sl)) = 1 := by
            split
            · rename_i t
              refine sg_pos ?_
              omega
            · rename_i t
              have c : -hh * y < x * -sl := by
                have e1 : x * -sl = -(sl * x) := by grind
                have e2 : -hh * y = -(hh * y) := by grind
                omega
              have f1 := fv_up g' hx hy (show 0 ≤ -hh by omega) (show 1 ≤ -sl by omega) h' c
              have f2 : 0 < s' * Fv s l w (-hh) (-sl) := by
                rw [← e0]
                exact Int.mul_pos (by omega) f1
              refine sg_pos (show 0 < Fv s l w (-hh) (-sl) from ?_)
              refine Classical.byContradiction fun t => ?_
              have := Int.mul_nonpos_of_nonneg_of_nonpos s0' (Int.not_lt.mp t)
              omega
          rw [goal2]
        · rename_i q
          have m1 : 0 ≤ sl * x := Int.mul_nonneg (by omega) hx
          have h0 : 0 < hh := by
            refine Classical.byContradiction fun t => ?_
            have := Int.mul_nonpos_of_nonpos_of_nonneg (a := hh) (b := y) (by omega) (by omega)
            omega
          split
          · exact sg_neg (by omega)
          · rename_i t
            refine sg_neg (fv_down g2 hx hy (by omega) (by omega) h ?_)
            have e1 : x * sl = sl * x := Int.mul_comm _ _
            omega
      · have s1 : s' = 0 := by omega
        subst s1
        rcases g' with ⟨_, l0, w0⟩ | ⟨zz, _⟩
        · have p1 : 0 < l' * s := Int.mul_pos (by omega) (by omega)
          have p2 : 0 ≤ w' * s := Int.mul_nonneg w0 (by omega)
          rw [Int.mul_zero, Int.mul_zero, Int.sub_zero, Int.sub_zero]
          unfold sal sal0
          rw [if_neg (by omega), if_neg (by omega)]
          refine sg_neg (fv_down g2 hx hy p2 p1 h ?_)
          have e : Fv 0 l' w' x y = y * (w' * y - l' * x) := by unfold Fv; grind
          rw [e] at h'
          have q : 0 ≤ w' * y - l' * x := by
            refine Classical.byContradiction fun z => ?_
            have := Int.mul_neg_of_pos_of_neg (a := y) (by omega) (Int.not_le.mp z)
            omega
          have q2 := Int.mul_nonneg q (show 0 ≤ s by omega)
          have e3 : (w' * y - l' * x) * s = w' * s * y - x * (l' * s) := by grind
          omega
        · omega
    rw [goal1]
    decide
/-- a number beside itself -/
theorem ord_self {s l w : Int} (g : Good s l w) : ord s l w s l w = 0 := by
  unfold ord
  split
  · rename_i z
    subst z
    unfold beside
    have e : w * l * l - l * w * l - 0 * w * w = 0 := by grind
    rw [e, sg_zero]
  · have e1 : l * s - l * s = 0 := by omega
    have e2 : w * s - w * s = 0 := by omega
    rw [e1, e2]
    unfold sal sal0
    rw [if_neg (by decide), if_pos (.inl rfl)]
    decide
/-! ### lowest terms, and one equation for one number -/
theorem gc_mul {k a b : Int} (hk : 0 ≤ k) : gc (k * a) (k * b) = k * gc a b := by
  unfold gc
  rw [Int.gcd_mul_left, Int.natCast_mul]
  congr 1
  omega
theorem gc_comm (a b : Int) : gc a b = gc b a := by
  unfold gc
  rw [Int.gcd_comm]
theorem cancel {a b c : Int} (ha : 0 < a) (h : a * b = a * c) : b = c := Int.eq_of_mul_eq_mul_left (by omega) h
theorem low_eq {c b p q : Int} (hb : 0 < b) (hq : 0 < q) (h : c * q = p * b) : b / gc c b = q / gc p q ∧ c / gc c b = p / gc p q := by
  have g1 : 0 < gc c b := gc_pos (.inr (by omega))
  have g2 : 0 < gc p q := gc_pos (.inr (by omega))
  have e : q * gc c b = b * gc p q := by
    rw [← gc_mul (by omega), ← gc_mul (by omega)]
    congr 1
    · rw [Int.mul_comm q c, h, Int.mul_comm]
    · exact Int.mul_comm _ _
  have b1 := ex_mul (gc_dvd2 c b) g1
  have c1 := ex_mul (gc_dvd1 c b) g1
  have q1 := ex_mul (gc_dvd2 p q) g2
  have p1 := ex_mul (gc_dvd1 p q) g2
  generalize b / gc c b = B at *
  generalize c / gc c b = Cc at *
  generalize q / gc p q = Qq at *
  generalize p / gc p q = Pp at *
  generalize gc c b = G at *
  generalize gc p q = K at *
  have gk : 0 < G * K := Int.mul_pos g1 g2
  have e1 : B = Qq := by
    refine cancel gk ?_
    rw [b1, q1] at e
    grind
  refine ⟨e1, ?_⟩
  have bp : 0 < B := by
    refine Classical.byContradiction fun z => ?_
    have := Int.mul_nonpos_of_nonneg_of_nonpos (Int.le_of_lt g1) (Int.not_lt.mp z)
    omega
  refine cancel (Int.mul_pos gk bp) ?_
  rw [c1, q1, p1, b1] at h
  subst e1
  grind
theorem dvd_sq {q m : Int} (h : q * q ∣ m * m) : q ∣ m := by
  have h1 : q.natAbs ^ 2 ∣ m.natAbs ^ 2 := by
    have := Int.natAbs_dvd_natAbs.mpr h
    rw [Int.natAbs_mul, Int.natAbs_mul] at this
    rw [Nat.pow_two, Nat.pow_two]
    exact this
  exact Int.natAbs_dvd_natAbs.mp ((Nat.pow_dvd_pow_iff (by decide)).mp h1)
/-- a number that is a fraction -/
theorem rat_root {a b c p q : Int} (g : Good a b c) (hp : 0 ≤ p) (hq : 1 ≤ q) (h : a * p * p + b * p * q = c * q * q) : parts a b c = (0, q / gc p q, p / gc p q) := by
  rcases g with ⟨rfl, b0, c0⟩ | ⟨a0, c0⟩
  · unfold parts
    rw [if_pos rfl]
    have h2 : c * q = p * b := by
      refine cancel (a := q) (by omega) ?_
      grind
    obtain ⟨e1, e2⟩ := low_eq (c := c) (b := b) (p := p) (q := q) (by omega) (by omega) h2
    rw [e1, e2]
  · have k : (b * b + 4 * a * c) * (q * q) = (2 * a * p + b * q) * (2 * a * p + b * q) := by grind
    obtain ⟨m, hm⟩ : q ∣ (2 * a * p + b * q) := dvd_sq ⟨b * b + 4 * a * c, by rw [← k, Int.mul_comm]⟩
    have qq : 0 < q * q := Int.mul_pos (by omega) (by omega)
    have d : b * b + 4 * a * c = m * m := by
      refine cancel qq ?_
      rw [hm] at k
      grind
    have hac : 0 < 4 * a * c := Int.mul_pos (by omega) (by omega)
    -- the root is m itself
    have m0 : 0 ≤ m := by
      refine Classical.byContradiction fun z => ?_
      have r := rt_gt (b := b) (r := -m) hac (by omega) (by rw [d]; grind)
      have e1 : 2 * a * p = q * (m - b) := by
        have : q * (m - b) = q * m - b * q := by grind
        omega
      have e2 : 0 ≤ 2 * a * p := Int.mul_nonneg (by omega) hp
      have e3 : q * (m - b) < 0 := Int.mul_neg_of_pos_of_neg (by omega) (by omega)
      omega
    have er : rt (b * b + 4 * a * c) = m := by
      refine (rt_of ⟨m0, by omega, ?_⟩).symm
      have : (m + 1) * (m + 1) = m * m + 2 * m + 1 := by grind
      omega
    unfold parts
    rw [if_neg (by omega), er, if_pos (by omega)]
    have h2 : (m - b) * q = p * (2 * a) := by
      have : (m - b) * q = q * m - b * q := by grind
      have : p * (2 * a) = 2 * a * p := by grind
      omega
    obtain ⟨e1, e2⟩ := low_eq (c := m - b) (b := 2 * a) (p := p) (q := q) (by omega) (by omega) h2
    rw [e1, e2]
/-- one equation a multiple of the other -/
theorem parts_prop {a b c a' b' c' : Int} (g : Good a b c) (g' : Good a' b' c') (h1 : a' * b = a * b') (h2 : a' * c = a * c') (h3 : b' * c = b * c') : parts a b c = parts a' b' c' := by
  rcases g with ⟨rfl, b0, c0⟩ | ⟨a0, c0⟩
  · have a1 : a' = 0 := by
      rw [Int.zero_mul] at h1
      rcases Int.mul_eq_zero.mp h1 with z | z <;> omega
    subst a1
    rcases g' with ⟨_, b0', c0'⟩ | g'
    · rw [rat_root (p := c) (q := b) (.inl ⟨rfl, b0, c0⟩) c0 b0 (by grind), rat_root (p := c) (q := b) (.inl ⟨rfl, b0', c0'⟩) c0 b0 ?_]
      have : b' * c * b = b * c' * b := by rw [h3]
      grind
    · omega
  · have gg : 1 ≤ a' ∧ 1 ≤ c' := by
      rcases g' with ⟨rfl, b1, c1⟩ | g'
      · rw [Int.zero_mul] at h1
        rcases Int.mul_eq_zero.mp h1.symm with z | z <;> omega
      · exact g'
    obtain ⟨a0', c0'⟩ := gg
    have ip := inside_pos (b := b) ⟨a0, c0⟩
    have ip' := inside_pos (b := b') ⟨a0', c0'⟩
    -- a root that is a fraction serves both
    have one : ∀ {r : Int}, 0 ≤ r → b * b + 4 * a * c = r * r → parts a b c = parts a' b' c' := fun {r} r0 e => by
      have rg := rt_gt ip.1 r0 e
      rw [rat_root (p := r - b) (q := 2 * a) (.inr ⟨a0, c0⟩) (by omega) (by omega) (by grind), rat_root (p := r - b) (q := 2 * a) (.inr ⟨a0', c0'⟩) (by omega) (by omega) ?_]
      refine cancel (a := a) (by omega) ?_
      have k : a' * (a * (r - b) * (r - b) + b * (r - b) * (2 * a)) = a' * (c * (2 * a) * (2 * a)) := by
        congr 1
        grind
      grind
    have two : ∀ {r : Int}, 0 ≤ r → b' * b' + 4 * a' * c' = r * r → parts a b c = parts a' b' c' := fun {r} r0 e => by
      have rg := rt_gt ip'.1 r0 e
      rw [rat_root (p := r - b') (q := 2 * a') (.inr ⟨a0', c0'⟩) (by omega) (by omega) (by grind), rat_root (p := r - b') (q := 2 * a') (.inr ⟨a0, c0⟩) (by omega) (by omega) ?_]
      refine cancel (a := a') (by omega) ?_
      have k : a * (a' * (r - b') * (r - b') + b' * (r - b') * (2 * a')) = a * (c' * (2 * a') * (2 * a')) := by
        congr 1
        grind
      grind
    by_cases e : rt (b * b + 4 * a * c) * rt (b * b + 4 * a * c) = b * b + 4 * a * c
    · exact one (rt_is ip.2).1 e.symm
    · by_cases e' : rt (b' * b' + 4 * a' * c') * rt (b' * b' + 4 * a' * c') = b' * b' + 4 * a' * c'
      · exact two (rt_is ip'.2).1 e'.symm
      · unfold parts
        rw [if_neg (by omega), if_neg e, if_neg (by omega), if_neg e']
        have G0 : 0 < gc (gc a b) c := gc_pos (.inr (by omega))
        have G0' : 0 < gc (gc a' b') c' := gc_pos (.inr (by omega))
        have eg : a' * gc (gc a b) c = a * gc (gc a' b') c' := by
          rw [← gc_mul (by omega), ← gc_mul (by omega), ← gc_mul (by omega), ← gc_mul (by omega), h1, h2, Int.mul_comm a' a]
        have x1 := ex_mul (Int.dvd_trans (gc_dvd1 (gc a b) c) (gc_dvd1 a b)) G0
        have x2 := ex_mul (Int.dvd_trans (gc_dvd1 (gc a b) c) (gc_dvd2 a b)) G0
        have x3 := ex_mul (gc_dvd2 (gc a b) c) G0
        have y1 := ex_mul (Int.dvd_trans (gc_dvd1 (gc a' b') c') (gc_dvd1 a' b')) G0'
        have y2 := ex_mul (Int.dvd_trans (gc_dvd1 (gc a' b') c') (gc_dvd2 a' b')) G0'
        have y3 := ex_mul (gc_dvd2 (gc a' b') c') G0'
        generalize a / gc (gc a b) c = A at *
        generalize b / gc (gc a b) c = B at *
        generalize c / gc (gc a b) c = D at *
        generalize a' / gc (gc a' b') c' = A' at *
        generalize b' / gc (gc a' b') c' = B' at *
        generalize c' / gc (gc a' b') c' = D' at *
        generalize gc (gc a b) c = G at *
        generalize gc (gc a' b') c' = G' at *
        have gg : 0 < G * G' := Int.mul_pos G0 G0'
        have ea : A = A' := by
          refine cancel gg ?_
          rw [x1, y1] at eg
          grind
        subst ea
        have Ap : 0 < A := by
          refine Classical.byContradiction fun z => ?_
          have := Int.mul_nonpos_of_nonneg_of_nonpos (Int.le_of_lt G0) (Int.not_lt.mp z)
          omega
        have ga : 0 < G * G' * A := Int.mul_pos gg Ap
        have eb : B = B' := by
          refine cancel ga ?_
          rw [x1, x2, y1, y2] at h1
          grind
        have ed : D = D' := by
          refine cancel ga ?_
          rw [x1, x3, y1, y3] at h2
          grind
        rw [eb, ed]
end RL

namespace RL
theorem mul_ab {x y X Y : Int} (hx : -X ≤ x ∧ x ≤ X) (hy : -Y ≤ y ∧ y ≤ Y) : -(X * Y) ≤ x * y ∧ x * y ≤ X * Y := by
  have X0 : 0 ≤ X := by omega
  have Y0 : 0 ≤ Y := by omega
  have a1 := Int.mul_nonneg (show 0 ≤ X - x by omega) (show 0 ≤ Y - y by omega)
  have a2 := Int.mul_nonneg (show 0 ≤ X + x by omega) (show 0 ≤ Y + y by omega)
  have a3 := Int.mul_nonneg (show 0 ≤ X - x by omega) (show 0 ≤ Y + y by omega)
  have a4 := Int.mul_nonneg (show 0 ≤ X + x by omega) (show 0 ≤ Y - y by omega)
  have e1 : (X - x) * (Y - y) = X * Y - X * y - x * Y + x * y := by grind
  have e2 : (X + x) * (Y + y) = X * Y + X * y + x * Y + x * y := by grind
  have e3 : (X - x) * (Y + y) = X * Y + X * y - x * Y - x * y := by grind
  have e4 : (X + x) * (Y - y) = X * Y - X * y + x * Y - x * y := by grind
  constructor <;> omega
structure Tiny (a b c : Int) : Prop where
  good : Good a b c
  ha : a ≤ 60
  hb : -61 ≤ b ∧ b ≤ 61
  hc : c ≤ 60
theorem Tiny.nn {a b c : Int} (h : Tiny a b c) : 0 ≤ a ∧ 0 ≤ c := by
  rcases h.good with g | g <;> omega
/-- how far the integer below is off -/
theorem off {a b c n N : Int} (t : Tiny a b c) (hN : 1 ≤ N) (hn : 0 ≤ n) (h1 : 0 ≤ Fv a b c n N) (h2 : Fv a b c (n + 1) N < 0) : n ≤ 62 * N ∧ Fv a b c n N ≤ 8000 * N := by
  obtain ⟨a0, c0⟩ := t.nn
  have nb : n ≤ 62 * N := by
    refine Classical.byContradiction fun q => ?_
    have q' : 62 * N < n := by omega
    rcases t.good with ⟨rfl, b0, _⟩ | ⟨a1, c1⟩
    · have e : Fv 0 b c n N = N * (c * N - b * n) := by unfold Fv; grind
      have k1 : n ≤ b * n := by
        have := Int.mul_le_mul_of_nonneg_right (a := 1) (b := b) (c := n) b0 hn
        omega
      have k2 : c * N ≤ 60 * N := Int.mul_le_mul_of_nonneg_right t.hc (by omega)
      have := Int.mul_neg_of_pos_of_neg (a := N) (b := c * N - b * n) (by omega) (by omega)
      omega
    · have k1 : n * n ≤ a * (n * n) := by
        have := Int.mul_le_mul_of_nonneg_right (a := 1) (b := a) (c := n * n) a1 (Int.mul_nonneg hn hn)
        omega
      have k2 : -61 * (n * N) ≤ b * (n * N) := Int.mul_le_mul_of_nonneg_right t.hb.1 (Int.mul_nonneg hn (by omega))
      have k3 : c * (N * N) ≤ 60 * (N * N) := Int.mul_le_mul_of_nonneg_right t.hc (Int.mul_nonneg (by omega) (by omega))
      have k4 : 62 * N * N ≤ n * (n - 61 * N) := Int.mul_le_mul (by omega) (by omega) (by omega) hn
      have e1 : Fv a b c n N = c * (N * N) - b * (n * N) - a * (n * n) := by unfold Fv; grind
      have e2 : n * (n - 61 * N) = n * n - 61 * (n * N) := by grind
      have e3 : 62 * N * N = 62 * (N * N) := by grind
      have k5 : 0 < N * N := Int.mul_pos (by omega) (by omega)
      omega
  refine ⟨nb, ?_⟩
  have e : Fv a b c n N - Fv a b c (n + 1) N = a * (2 * n + 1) + b * N := by unfold Fv; grind
  have k1 : a * (2 * n + 1) ≤ 60 * (2 * n + 1) := Int.mul_le_mul_of_nonneg_right t.ha (by omega)
  have k2 : b * N ≤ 61 * N := Int.mul_le_mul_of_nonneg_right t.hb.2 (by omega)
  omega
theorem sep {a b c a' b' c' n : Int} (t : Tiny a b c) (t' : Tiny a' b' c') (hn : 0 ≤ n)
    (h1 : 0 ≤ Fv a b c n 1000000000000000000000000000000) (h2 : Fv a b c (n + 1) 1000000000000000000000000000000 < 0)
    (h1' : 0 ≤ Fv a' b' c' n 1000000000000000000000000000000) (h2' : Fv a' b' c' (n + 1) 1000000000000000000000000000000 < 0) : parts a b c = parts a' b' c' := by
  obtain ⟨nb, k1⟩ := off t (by decide) hn h1 h2
  obtain ⟨_, k1'⟩ := off t' (by decide) hn h1' h2'
  obtain ⟨a0, c0⟩ := t.nn
  obtain ⟨a0', c0'⟩ := t'.nn
  have bA := t.ha
  have bA' := t'.ha
  have bC := t.hc
  have bC' := t'.hc
  have e1 : a' * Fv a b c n 1000000000000000000000000000000 - a * Fv a' b' c' n 1000000000000000000000000000000 = -(1000000000000000000000000000000 * ((a' * b - a * b') * n - (a' * c - a * c') * 1000000000000000000000000000000)) := by unfold Fv; grind
  have m1 := mul_ab (x := a') (y := Fv a b c n 1000000000000000000000000000000) (X := 60) (Y := 8000 * 1000000000000000000000000000000) (by omega) (by omega)
  have m1' := mul_ab (x := a) (y := Fv a' b' c' n 1000000000000000000000000000000) (X := 60) (Y := 8000 * 1000000000000000000000000000000) (by omega) (by omega)
  have m1n : 0 ≤ a' * Fv a b c n 1000000000000000000000000000000 := Int.mul_nonneg a0' h1
  have m1n' : 0 ≤ a * Fv a' b' c' n 1000000000000000000000000000000 := Int.mul_nonneg a0 h1'
  -- the line's rest
  have eps : -480000 ≤ (a' * b - a * b') * n - (a' * c - a * c') * 1000000000000000000000000000000 ∧ (a' * b - a * b') * n - (a' * c - a * c') * 1000000000000000000000000000000 ≤ 480000 := by omega
  have s1 := mul_ab (x := a') (y := b) (X := 60) (Y := 61) (by omega) t.hb
  have s2 := mul_ab (x := a) (y := b') (X := 60) (Y := 61) (by omega) t'.hb
  have s3 := mul_ab (x := a') (y := c) (X := 60) (Y := 60) (by omega) (by omega)
  have s4 := mul_ab (x := a) (y := c') (X := 60) (Y := 60) (by omega) (by omega)
  have hs : -7320 ≤ a' * b - a * b' ∧ a' * b - a * b' ≤ 7320 := by omega
  have hh : -7200 ≤ a' * c - a * c' ∧ a' * c - a * c' ≤ 7200 := by omega
  -- the equation's own rest at the line's zero
  have rest : ∀ (u v w : Int), Tiny u v w → 0 ≤ Fv u v w n 1000000000000000000000000000000 → Fv u v w n 1000000000000000000000000000000 ≤ 8000 * 1000000000000000000000000000000 →
      w * (a' * b - a * b') * (a' * b - a * b') - v * (a' * c - a * c') * (a' * b - a * b') - u * (a' * c - a * c') * (a' * c - a * c') = 0 := fun u v w tt f0 f1 => by
    obtain ⟨u0, w0⟩ := tt.nn
    have bu := tt.ha
    have bv := tt.hb
    generalize a' * b - a * b' = S at *
    generalize a' * c - a * c' = T at *
    generalize ee : S * n - T * 1000000000000000000000000000000 = ε at *
    have key : 1000000000000000000000000000000 * (1000000000000000000000000000000 * (w * S * S - v * T * S - u * T * T)) = S * S * Fv u v w n 1000000000000000000000000000000 + 1000000000000000000000000000000 * (ε * (v * S + 2 * u * T)) + u * (ε * ε) := by
      unfold Fv
      subst ee
      grind
    have q1 := mul_ab (x := S) (y := S) hs hs
    have q2 := mul_ab (x := S * S) (y := Fv u v w n 1000000000000000000000000000000) (X := 7320 * 7320) (Y := 8000 * 1000000000000000000000000000000) q1 (by omega)
    have q3 := mul_ab (x := v) (y := S) bv hs
    have q4 := mul_ab (x := u) (y := T) (X := 60) (Y := 7200) (by omega) hh
    have q5 := mul_ab (x := ε) (y := v * S + 2 * u * T) (X := 480000) (Y := 61 * 7320 + 2 * (60 * 7200)) eps (by
      have : 2 * u * T = 2 * (u * T) := by grind
      omega)
    have q6 := mul_ab (x := ε) (y := ε) eps eps
    have q7 := mul_ab (x := u) (y := ε * ε) (X := 60) (Y := 480000 * 480000) (by omega) q6
    omega
  have R := rest a b c t h1 k1
  have R' := rest a' b' c' t' h1' k1'
  have g := t.good
  have g' := t'.good
  by_cases z : a' * b - a * b' = 0
  · rw [z] at eps
    have z2 : a' * c - a * c' = 0 := by
      generalize a' * c - a * c' = T at *
      omega
    rcases g with ⟨rfl, b0, _⟩ | ⟨a1, c1⟩
    · have az : a' = 0 := by
        have : a' * b = 0 := by omega
        rcases Int.mul_eq_zero.mp this with y | y <;> omega
      subst az
      rcases g' with ⟨_, b0', _⟩ | g'
      · -- two fractions
        have bb := t.hb
        have bb' := t'.hb
        have e2 : Fv 0 b c n 1000000000000000000000000000000 - Fv 0 b c (n + 1) 1000000000000000000000000000000 = b * 1000000000000000000000000000000 := by unfold Fv; grind
        have e2' : Fv 0 b' c' n 1000000000000000000000000000000 - Fv 0 b' c' (n + 1) 1000000000000000000000000000000 = b' * 1000000000000000000000000000000 := by unfold Fv; grind
        have e3 : b' * Fv 0 b c n 1000000000000000000000000000000 - b * Fv 0 b' c' n 1000000000000000000000000000000 = 1000000000000000000000000000000 * (1000000000000000000000000000000 * (b' * c - b * c')) := by unfold Fv; grind
        have w1 := mul_ab (x := b') (y := Fv 0 b c n 1000000000000000000000000000000) (X := 61) (Y := 61 * 1000000000000000000000000000000) (by omega) (by omega)
        have w2 := mul_ab (x := b) (y := Fv 0 b' c' n 1000000000000000000000000000000) (X := 61) (Y := 61 * 1000000000000000000000000000000) (by omega) (by omega)
        refine parts_prop t.good t'.good (by omega) (by omega) ?_
        generalize b' * c = M at *
        generalize b * c' = M' at *
        omega
      · omega
    · refine parts_prop t.good t'.good (by omega) (by omega) ?_
      refine cancel (a := a) (by omega) ?_
      have y1 : a' * b = a * b' := by omega
      have y2 : a' * c = a * c' := by omega
      have : a * (b' * c) = a * b' * c := by grind
      rw [this, ← y1]
      have : a * (b * c') = b * (a * c') := by grind
      rw [this, ← y2]
      grind
  · generalize a' * b - a * b' = S at *
    generalize a' * c - a * c' = T at *
    rcases Int.lt_or_le 0 S with sp | sp
    · have T0 : 0 ≤ T := by
        have := Int.mul_nonneg (Int.le_of_lt sp) hn
        omega
      rw [rat_root (p := T) (q := S) t.good T0 sp (by grind), rat_root (p := T) (q := S) t'.good T0 sp (by grind)]
    · have T0 : 0 ≤ -T := by
        have := Int.mul_nonneg (show 0 ≤ -S by omega) hn
        have e : -S * n = -(S * n) := by grind
        omega
      rw [rat_root (p := -T) (q := -S) t.good T0 (by omega) (by grind), rat_root (p := -T) (q := -S) t'.good T0 (by omega) (by grind)]
end RL

namespace RL
theorem Nrm.fv {a b c s l w x y : Int} (N : Nrm a b c s l w) (hx : 0 ≤ x) (hy : 1 ≤ y) : (Fv s l w x y < 0 ↔ Fv a b c x y < 0) ∧ (0 ≤ Fv s l w x y ↔ 0 ≤ Fv a b c x y) := by
  obtain ⟨k1, k2⟩ := N.sgn x y hx hy
  have e : Fv a b c x y = -(a * x * x + b * x * y - c * y * y) := by unfold Fv; omega
  have e2 : Fv s l w x y = w * y * y - l * x * y - s * x * x := rfl
  rw [e, e2]
  generalize w * y * y - l * x * y - s * x * x = u at *
  generalize a * x * x + b * x * y - c * y * y = v at *
  constructor <;> constructor <;> intro h <;> omega
theorem sg_nn {n : Int} (h : 0 ≤ sg n) : 0 ≤ n := by
  refine Classical.byContradiction fun z => ?_
  rw [sg_neg (by omega)] at h
  omega
theorem sg_m1 {n : Int} (h : sg n = -1) : n < 0 := by
  refine Classical.byContradiction fun z => ?_
  rcases Int.lt_or_le 0 n with q | q
  · rw [sg_pos q] at h
    omega
  · have : n = 0 := by omega
    subst this
    rw [sg_zero] at h
    omega
theorem flo_fv {a b c t : Int} (g : Good a b c) (ht : 1 ≤ t) : 0 ≤ flo a b c t ∧ 0 ≤ Fv a b c (flo a b c t) t ∧ Fv a b c (flo a b c t + 1) t < 0 := by
  obtain ⟨h0, h1, h2⟩ := flo_is g ht
  exact ⟨h0, sg_nn h1, sg_m1 h2⟩
abbrev ordP (p q : Int × Int × Int) : Int := ord p.1 p.2.1 p.2.2 q.1 q.2.1 q.2.2
theorem flo_lt {a b c a' b' c' t : Int} (g : Good a b c) (g' : Good a' b' c') (ht : 1 ≤ t) (h : flo a b c t < flo a' b' c' t) : ordP (parts a b c) (parts a' b' c') = -1 ∧ ordP (parts a' b' c') (parts a b c) = 1 := by
  obtain ⟨h0, h1, h2⟩ := flo_fv g ht
  obtain ⟨h0', h1', h2'⟩ := flo_fv g' ht
  have N := parts_nrm g
  have N' := parts_nrm g'
  have k : Fv a b c (flo a' b' c' t) t < 0 := fv_down g (by omega) ht h0' ht h2 (Int.mul_le_mul_of_nonneg_right (by omega) (by omega))
  have f := (N.fv h0' ht).1.mpr k
  have f' := (N'.fv h0' ht).2.mpr h1'
  exact ⟨ord_lt N.good N'.good h0' ht f f', ord_gt N.good N'.good h0' ht f f'⟩
def dueAt (a b c a' b' c' : Int) : List Nat → Int
  | [] => 0
  | n :: r => if flo a b c (10 ^ n) = flo a' b' c' (10 ^ n) then dueAt a b c a' b' c' r else if flo a b c (10 ^ n) < flo a' b' c' (10 ^ n) then -1 else 1
def dueV (a b c a' b' c' : Int) : Int := if parts a b c = parts a' b' c' then 0 else dueAt a b c a' b' c' [3, 12, 30]
theorem ten_pos (n : Nat) : (1 : Int) ≤ 10 ^ n := by
  have e : ((10 ^ n : Nat) : Int) = 10 ^ n := by rw [Int.natCast_pow]; rfl
  have : 0 < 10 ^ n := Nat.pow_pos (by decide)
  rw [← e]
  omega
theorem dueAt_ok {a b c a' b' c' : Int} (g : Good a b c) (g' : Good a' b' c') : ∀ ns : List Nat, (∃ n ∈ ns, flo a b c (10 ^ n) ≠ flo a' b' c' (10 ^ n)) →
    ordP (parts a b c) (parts a' b' c') = dueAt a b c a' b' c' ns ∧ ordP (parts a' b' c') (parts a b c) = -dueAt a b c a' b' c' ns ∧ dueAt a b c a' b' c' ns ≠ 0
  | [], h => by
    obtain ⟨n, hn, _⟩ := h
    cases hn
  | n :: r, h => by
    unfold dueAt
    split
    · rename_i e
      refine dueAt_ok g g' r ?_
      obtain ⟨m, hm, q⟩ := h
      rcases List.mem_cons.mp hm with rfl | hm
      · exact absurd e q
      · exact ⟨m, hm, q⟩
    · rename_i e
      split
      · rename_i l
        obtain ⟨q1, q2⟩ := flo_lt g g' (ten_pos n) l
        exact ⟨q1, q2, by decide⟩
      · rename_i l
        obtain ⟨q1, q2⟩ := flo_lt g' g (ten_pos n) (show flo a' b' c' (10 ^ n) < flo a b c (10 ^ n) by omega)
        exact ⟨q2, q1, by decide⟩
theorem due_ok {a b c a' b' c' : Int} (g : Good a b c) (g' : Good a' b' c') (t : parts a b c = parts a' b' c' ∨ (Tiny a b c ∧ Tiny a' b' c')) :
    ordP (parts a b c) (parts a' b' c') = dueV a b c a' b' c' ∧ ordP (parts a' b' c') (parts a b c) = -dueV a b c a' b' c' ∧ (dueV a b c a' b' c' = 0 ↔ parts a b c = parts a' b' c') := by
  unfold dueV
  by_cases e : parts a b c = parts a' b' c'
  · rw [if_pos e, ← e]
    have N := parts_nrm g
    refine ⟨ord_self N.good, ?_, fun _ => rfl, fun _ => rfl⟩
    show ord _ _ _ _ _ _ = -0
    rw [ord_self N.good]
    rfl
  · rw [if_neg e]
    rcases t with t | ⟨t, t'⟩
    · exact absurd t e
    · have k : ∃ n ∈ [3, 12, 30], flo a b c (10 ^ n) ≠ flo a' b' c' (10 ^ n) := by
        refine ⟨30, by simp, fun z => e ?_⟩
        have e30 : (10 : Int) ^ 30 = 1000000000000000000000000000000 := by decide
        rw [e30] at z
        obtain ⟨h0, h1, h2⟩ := flo_fv g (t := 1000000000000000000000000000000) (by decide)
        obtain ⟨h0', h1', h2'⟩ := flo_fv g' (t := 1000000000000000000000000000000) (by decide)
        rw [← z] at h1' h2'
        exact sep t t' h0 h1 h2 h1' h2'
      obtain ⟨q1, q2, q3⟩ := dueAt_ok g g' _ k
      exact ⟨q1, q2, fun z => absurd z q3, fun z => absurd z e⟩
/-! ### k + sqrt(k * k + 1) and sqrt(4 * k * k + 2) -/
theorem gc_one (x : Int) : gc 1 x = 1 := by
  unfold gc
  simp
theorem near1 {k : Int} (hk : 1 ≤ k) : parts 1 (-2 * k) 1 = (1, -2 * k, 1) := by
  have r : rt (-2 * k * (-2 * k) + 4 * 1 * 1) = 2 * k := by
    refine (rt_of ⟨by omega, ?_, ?_⟩).symm
    · have : 2 * k * (2 * k) = -2 * k * (-2 * k) := by grind
      omega
    · have e1 : (2 * k + 1) * (2 * k + 1) = -2 * k * (-2 * k) + 4 * k + 1 := by grind
      omega
  unfold parts
  rw [if_neg (by decide), r, if_neg ?_]
  · have g2 : gc 1 1 = 1 := by decide
    rw [gc_one, g2]
    simp
  · have : 2 * k * (2 * k) = -2 * k * (-2 * k) := by grind
    omega
theorem near2 {k : Int} (hk : 1 ≤ k) : parts 1 0 (4 * k * k + 2) = (1, 0, 4 * k * k + 2) := by
  have e0 : 0 * 0 + 4 * 1 * (4 * k * k + 2) = 16 * (k * k) + 8 := by grind
  have r : rt (0 * 0 + 4 * 1 * (4 * k * k + 2)) = 4 * k := by
    rw [e0]
    refine (rt_of ⟨by omega, ?_, ?_⟩).symm
    · have : 4 * k * (4 * k) = 16 * (k * k) := by grind
      omega
    · have e1 : (4 * k + 1) * (4 * k + 1) = 16 * (k * k) + 8 * k + 1 := by grind
      omega
  unfold parts
  rw [if_neg (by decide), r, if_neg ?_]
  · rw [gc_one, gc_one]
    simp
  · rw [e0]
    have : 4 * k * (4 * k) = 16 * (k * k) := by grind
    omega
theorem near_ord {k : Int} (hk : 1 ≤ k) : ord 1 (-2 * k) 1 1 0 (4 * k * k + 2) = -1 ∧ ord 1 0 (4 * k * k + 2) 1 (-2 * k) 1 = 1 := by
  have kk : 0 ≤ k * k := sq_nn k
  have e4 : 4 * k * k = 4 * (k * k) := by grind
  refine ⟨?_, ?_⟩
  · unfold ord
    rw [if_neg (by decide)]
    have a1 : -2 * k * 1 - 0 * 1 = -(2 * k) := by omega
    have a2 : 1 * 1 - (4 * k * k + 2) * 1 = -(4 * k * k + 1) := by omega
    rw [a1, a2]
    unfold sal sal0
    rw [if_pos (by omega), if_neg (by omega), Int.neg_neg, Int.neg_neg, Int.neg_neg]
    have f : beside 1 0 (4 * k * k + 2) (4 * k * k + 1) (2 * k) = -1 := by
      refine sg_neg ?_
      have : (4 * k * k + 2) * (2 * k) * (2 * k) - 0 * (4 * k * k + 1) * (2 * k) - 1 * (4 * k * k + 1) * (4 * k * k + 1) = -1 := by grind
      omega
    rw [f]
  · unfold ord
    rw [if_neg (by decide)]
    have a1 : 0 * 1 - -2 * k * 1 = 2 * k := by omega
    have a2 : (4 * k * k + 2) * 1 - 1 * 1 = 4 * k * k + 1 := by omega
    rw [a1, a2]
    unfold sal sal0
    rw [if_neg (by omega), if_neg (by omega)]
    have f : beside 1 (-2 * k) 1 (4 * k * k + 1) (2 * k) = -1 := by
      refine sg_neg ?_
      have : 1 * (2 * k) * (2 * k) - -2 * k * (4 * k * k + 1) * (2 * k) - 1 * (4 * k * k + 1) * (4 * k * k + 1) = -1 := by grind
      omega
    rw [f]
    decide
/-! ### a number and a fraction -/
theorem sg_scale {k u : Int} (hk : 0 < k) : sg (k * u) = sg u := by
  have q := pos_iff (u := u) hk
  unfold sg
  by_cases p : 0 < u
  · rw [if_pos p, if_pos (q.1.mpr p)]
  · by_cases z : u = 0
    · subst z
      rw [Int.mul_zero]
    · have h1 : ¬ 0 < k * u := fun t => p (q.1.mp t)
      have h2 : ¬ k * u = 0 := fun t => z (q.2.mp t)
      rw [if_neg p, if_pos (show u < 0 by omega), if_neg h1, if_pos (show k * u < 0 by omega)]
theorem sg_opp (u : Int) : sg (-u) = -sg u := by
  unfold sg
  by_cases p : 0 < u
  · rw [if_pos p, if_neg (by omega), if_pos (by omega)]
  · by_cases z : u < 0
    · rw [if_neg p, if_pos z, if_pos (by omega)]
      decide
    · rw [if_neg p, if_neg z, if_neg (by omega), if_neg (by omega)]
      decide
theorem ord_frac {a b c y v : Int} (g : Good a b c) (hy : 1 ≤ y) (hv : 0 ≤ v) : ordP (parts a b c) (parts 0 y v) = side a b c v y ∧ ordP (parts 0 y v) (parts a b c) = -side a b c v y := by
  have N := parts_nrm g
  have g0 : 0 < gc v y := gc_pos (.inr (by omega))
  have ey := ex_mul (gc_dvd2 v y) g0
  have ev := ex_mul (gc_dvd1 v y) g0
  have epr : parts 0 y v = (0, y / gc v y, v / gc v y) := by unfold parts; rw [if_pos rfl]
  rw [epr]
  have y1 : 1 ≤ y / gc v y := by
    refine Classical.byContradiction fun z => ?_
    have := Int.mul_nonpos_of_nonneg_of_nonpos (a := gc v y) (b := y / gc v y) (by omega) (by omega)
    omega
  have v1 : 0 ≤ v / gc v y := Int.ediv_nonneg hv (by omega)
  have es : side a b c v y = side a b c (v / gc v y) (y / gc v y) := by
    have := side_same (a := a) (b := b) (c := c) (x := v / gc v y) (y := y / gc v y) (k := gc v y) (by omega) y1
    rw [← ev, ← ey] at this
    exact this
  rw [es, ← N.side v1 y1]
  generalize y / gc v y = Y at *
  generalize v / gc v y = W at *
  have gd := N.good
  show ord (parts a b c).1 (parts a b c).2.1 (parts a b c).2.2 0 Y W = _ ∧ ord 0 Y W (parts a b c).1 (parts a b c).2.1 (parts a b c).2.2 = _
  generalize (parts a b c).1 = s at *
  generalize (parts a b c).2.1 = l at *
  generalize (parts a b c).2.2 = w at *
  refine ⟨?_, ?_⟩
  · unfold ord
    rw [if_pos rfl]
  · unfold ord
    split
    · rename_i z
      subst z
      rcases gd with ⟨_, l0, w0⟩ | ⟨zz, _⟩
      · unfold beside
        have e1 : W * l * l - Y * w * l - 0 * w * w = l * (W * l - Y * w) := by grind
        have e2 : w * Y * Y - l * W * Y - 0 * W * W = Y * -(W * l - Y * w) := by grind
        rw [e1, e2, sg_scale (by omega), sg_scale (by omega), sg_opp, Int.neg_neg]
      · omega
    · rename_i z
      have s0 : 1 ≤ s := by rcases gd with g | g <;> omega
      rw [Int.mul_zero, Int.mul_zero, Int.sub_zero, Int.sub_zero]
      have p1 : 0 < Y * s := Int.mul_pos (by omega) (by omega)
      have p2 : 0 ≤ W * s := Int.mul_nonneg v1 (by omega)
      unfold sal sal0
      rw [if_neg (by omega), if_neg (by omega)]
      unfold beside
      have e1 : w * (Y * s) * (Y * s) - l * (W * s) * (Y * s) - s * (W * s) * (W * s) = s * s * (w * Y * Y - l * W * Y - s * W * W) := by grind
      rw [e1, sg_scale (Int.mul_pos (by omega) (by omega))]
end RL

/-! The texts of numbers, and that repr of what is told fits. -/
namespace RL
open PySem L2
def ts (i : Int) : Str := Str.ofString (toString i)
structure OkT (n : Nat) (x : Str) : Prop where
  len : x.length ≤ n
  cps : ∀ c ∈ x.cps.toList, c < 16 ^ 8
theorem OkT.mono {m n : Nat} {x : Str} (h : OkT m x) (l : m ≤ n) : OkT n x := ⟨Nat.le_trans h.len l, h.cps⟩
theorem OkT.of (s : String) : OkT s.length (Str.ofString s) := by
  refine ⟨Nat.le_of_eq (ofString_length s), fun c hc => ?_⟩
  rw [PyProof.Rows.signs_ofString] at hc
  obtain ⟨ch, _, rfl⟩ := List.mem_map.mp hc
  have h1 : ch.toNat < 2 ^ 32 := ch.val.toNat_lt
  have h2 : (16 : Nat) ^ 8 = 2 ^ 32 := by decide
  omega
theorem OkT.app {m n : Nat} {x y : Str} (h : OkT m x) (k : OkT n y) : OkT (m + n) (x ++ y) := by
  refine ⟨?_, fun c hc => ?_⟩
  · rw [Str.length_append]
    have := h.len
    have := k.len
    omega
  · have e : (x ++ y).cps.toList = x.cps.toList ++ y.cps.toList := by
      show (x.cps ++ y.cps).toList = _
      rw [Array.toList_append]
    rw [e] at hc
    exact (List.mem_append.mp hc).elim (h.cps c) (k.cps c)
theorem log_sm {n : Nat} {i : Int} (hn : 0 < n) (h : Sm n i) : i.natAbs.log2 < n := PySem.Flt.log2_lt_of hn h
theorem ts_ok {i : Int} (h : Sm 200 i) : OkT 201 (ts i) := (OkT.of (toString i)).mono (int_text_length_le (by decide) (log_sm (by decide) h))
theorem show_int {i : Int} (h : Sm 200 i) : (PyData.int i).showable = true ∧ (PyData.int i).leavesShort 300 = true ∧ (PyData.int i).weight ≤ 200 := by
  have l := log_sm (by decide) h
  refine ⟨?_, ?_, ?_⟩
  · show decide (i.natAbs.log2 < 1920) = true
    exact decide_eq_true (by omega)
  · show decide ((PyData.shown (.int i)).length ≤ 300) = true
    refine decide_eq_true ?_
    have e : PyData.shown (.int i) = ts i := rfl
    rw [e]
    exact Nat.le_trans (ts_ok h).len (by decide)
  · show (if i == 0 then 0 else i.natAbs.log2 + 1) ≤ 200
    split <;> omega
theorem show_str {n : Nat} {x : Str} (h : OkT n x) : (PyData.str x).leavesShort 300 = true ∧ (PyData.str x).weight ≤ n := by
  refine ⟨?_, h.len⟩
  show (x.cps.toList.all fun c => decide (c < 16 ^ 8)) = true
  rw [List.all_eq_true]
  exact fun c hc => decide_eq_true (h.cps c hc)
structure Shows (d : PyData) : Prop where
  s : d.showable = true
  n : d.hasDict = false
  p : d.depth ≤ 40
  l : d.shown.length ≤ sizeLine
/-- the four things that are told of a number -/
theorem shows_root {a b c : Int} {x y : Str} (ha : Sm 200 a) (hb : Sm 200 b) (hc : Sm 200 c) (hx : OkT 2000 x) (hy : OkT 2000 y) : Shows (.list [.tuple [.int a, .int b, .int c], .none, .str x, .str y]) := by
  obtain ⟨a1, a2, a3⟩ := show_int ha
  obtain ⟨b1, b2, b3⟩ := show_int hb
  obtain ⟨c1, c2, c3⟩ := show_int hc
  obtain ⟨x1, x2⟩ := show_str hx
  obtain ⟨y1, y2⟩ := show_str hy
  refine ⟨?_, rfl, (by simp [PyData.depth, PyData.depthAll]), ?_⟩
  · simp only [PyData.showable, PyData.showableAll] at a1 b1 c1 ⊢
    simp [a1, b1, c1]
  · have hl : (PyData.list [.tuple [.int a, .int b, .int c], .none, .str x, .str y]).leavesShort 300 = true := by
      simp only [PyData.leavesShort, PyData.leavesShortAll] at a2 b2 c2 x1 y1 ⊢
      simp only [a2, b2, c2, x1, y1, Bool.and_self]
    have hw := PyData.shown_le 300 (by decide) _ hl
    have e : (PyData.list [.tuple [.int a, .int b, .int c], .none, .str x, .str y]).weight = ((PyData.int a).weight + 1 + ((PyData.int b).weight + 1 + ((PyData.int c).weight + 1 + 0))) + 1 + (0 + 1 + ((PyData.str x).weight + 1 + ((PyData.str y).weight + 1 + 0))) := rfl
    rw [e] at hw
    rw [sizeLine_eq]
    omega
theorem shows_frac {a b c d e : Int} {x y : Str} (ha : Sm 200 a) (hb : Sm 200 b) (hc : Sm 200 c) (hd : Sm 200 d) (he : Sm 200 e) (hx : OkT 2000 x) (hy : OkT 2000 y) : Shows (.list [.tuple [.int a, .int b, .int c], .tuple [.int d, .int e], .str x, .str y]) := by
  obtain ⟨a1, a2, a3⟩ := show_int ha
  obtain ⟨b1, b2, b3⟩ := show_int hb
  obtain ⟨c1, c2, c3⟩ := show_int hc
  obtain ⟨d1, d2, d3⟩ := show_int hd
  obtain ⟨e1, e2, e3⟩ := show_int he
  obtain ⟨x1, x2⟩ := show_str hx
  obtain ⟨y1, y2⟩ := show_str hy
  refine ⟨?_, rfl, (by simp [PyData.depth, PyData.depthAll]), ?_⟩
  · simp only [PyData.showable, PyData.showableAll] at a1 b1 c1 d1 e1 ⊢
    simp [a1, b1, c1, d1, e1]
  · have hl : (PyData.list [.tuple [.int a, .int b, .int c], .tuple [.int d, .int e], .str x, .str y]).leavesShort 300 = true := by
      simp only [PyData.leavesShort, PyData.leavesShortAll] at a2 b2 c2 d2 e2 x1 y1 ⊢
      simp only [a2, b2, c2, d2, e2, x1, y1, Bool.and_self]
    have hw := PyData.shown_le 300 (by decide) _ hl
    have e' : (PyData.list [.tuple [.int a, .int b, .int c], .tuple [.int d, .int e], .str x, .str y]).weight = ((PyData.int a).weight + 1 + ((PyData.int b).weight + 1 + ((PyData.int c).weight + 1 + 0))) + 1 + (((PyData.int d).weight + 1 + ((PyData.int e).weight + 1 + 0)) + 1 + ((PyData.str x).weight + 1 + ((PyData.str y).weight + 1 + 0))) := rfl
    rw [e'] at hw
    rw [sizeLine_eq]
    omega
/-! ### the texts -/
def commas (a b c : Int) : Str := ts a ++ ", " ++ ts b ++ ", " ++ ts c
theorem join3 (x y z : Str) : Txt.join ", " [x, y, z] = x ++ ", " ++ y ++ ", " ++ z := by
  show Builtin.Str.glued ", " [x, y, z] = _
  rw [StrLaws.glued_eq_join]
  show x ++ ", " ++ (y ++ ", " ++ z) = _
  simp only [Str.append_assoc]
def ftext (t b : Int) : Str := if b = 1 then ts t else ts t ++ "/" ++ ts b
def xtext (s l w : Int) : Str := if s = 0 then ftext w l else "root of " ++ commas s l w
def rtext (s l w : Int) : Str := "Exact(" ++ commas s l w ++ ")"
theorem commas_ok {a b c : Int} (ha : Sm 200 a) (hb : Sm 200 b) (hc : Sm 200 c) : OkT 700 (commas a b c) := ((((((ts_ok ha).app (OkT.of ", ")).app (ts_ok hb)).app (OkT.of ", ")).app (ts_ok hc))).mono (by decide)
theorem ftext_ok {t b : Int} (ht : Sm 200 t) (hb : Sm 200 b) : OkT 700 (ftext t b) := by
  unfold ftext
  split
  · exact (ts_ok ht).mono (by decide)
  · exact (((ts_ok ht).app (OkT.of "/")).app (ts_ok hb)).mono (by decide)
theorem xtext_ok {a b c : Int} (ha : Sm 200 a) (hb : Sm 200 b) (hc : Sm 200 c) : OkT 1000 (xtext a b c) := by
  unfold xtext
  split
  · exact (ftext_ok hc hb).mono (by decide)
  · exact ((OkT.of "root of ").app (commas_ok ha hb hc)).mono (by decide)
theorem rtext_ok {a b c : Int} (ha : Sm 200 a) (hb : Sm 200 b) (hc : Sm 200 c) : OkT 1000 (rtext a b c) := (((OkT.of "Exact(").app (commas_ok ha hb hc)).app (OkT.of ")")).mono (by decide)
theorem OkT.fits {n : Nat} {x : Str} (h : OkT n x) (l : n ≤ 100000 := by decide) : x.length ≤ sizeLine := by
  have := h.len
  rw [sizeLine_eq]
  omega
end RL

set_option maxHeartbeats 1000000
/-! Further rules: o.f as a target within a tuple; an own binary operator; a static method read off its class; an instance called by keyword; t[::-1] of a tuple; x in a tuple of data. -/
namespace RL
open PySem L2 PySem.Spec PyProof.Rows PySem.W
section
variable {X : Cx}
def gFld (K : PySem.W.Frag) (ta : TE) (f : Str) : TG := fun v σ H Q => ta σ H fun x H1 => ∃ a C dx fs, x = .ref a ∧ H1 a = some (.ins C dx fs) ∧ Cls K C ∧ NoAttr K C f ∧ fs.length < 1000 ∧ Q σ (upd H1 a (.ins C dx (putF f v fs)))
theorem pg_fld {o : Expr} {f : Str} {pos : Pos} {ta : TE} (ho : PE X o ta) (ha : ∀ v, assign (.Attribute o f pos) X.env v = (do
      let ov ← holding [v] (eval o X.env)
      standAt pos.atName
      holding [v, ov] (setAttr ov f v)
      release [v, ov] []) := by intro _; rfl) : PG X (.Attribute o f pos) (gFld X.K ta f) := by
  refine ⟨fun pins s σ H v u Q I r h => ?_⟩
  rw [ha]
  refine wpAny_bind (wpAny_holding (thn (ho.run pins s σ H _ I h) fun ov s1 ⟨x, H1, I1, r1, a, C, dx, fs, ex, ea, c, n, l, q⟩ => ?_))
  subst ex
  obtain rfl : ov = Value.ref a := r1
  refine wpAny_bind (wpAny_standAt (wpAny_bind (wpAny_holding (setattr_ok I1 ea c n l r fun s2 I2 => ?_))))
  exact wpAny_release ⟨σ, _, I2, q⟩
end
/-! ### an own binary operator -/
section
variable {X : Cx} {k : Nat} {ps : List Str} {sp : Sp} {C g : Addr} {fd : FuncData}
def rBinOwn (C : Addr) (sp : Sp) : R2 := fun x y H Q => ∃ a dx fs b dy gs, x = .ref a ∧ H a = some (.ins C dx fs) ∧ y = .ref b ∧ H b = some (.ins C dy gs) ∧ sp [x, y] H Q E0
theorem op_binOwn {op : Operator} (hc : PySem.W.selfFirst X.K C = true) (hs : PySem.W.findIn X.K (.ref C) (PySem.dunder op.info.2) = some (some (.ref g))) (hf : PySem.W.isFn X.K (.ref g) = true) (F : FnOk X.prog X.w X.K X.mg X.base CX0 k g fd ps sp) (hb : Binds X.K fd ps []) (hr : Room k X.A) :
    OpR X (binaryOp op) (rBinOwn C sp) := by
  intro pins s σ H x y v u Q I rx ry h
  obtain ⟨a, dx, fs, b, dy, gs, rfl, ha, rfl, hy, q⟩ := h
  cases (show v = Value.ref a from rx)
  cases (show u = Value.ref b from ry)
  obtain ⟨mA, O, _⟩ := ins_get I.hok ha
  obtain ⟨od, J, _⟩ := O.look
  obtain ⟨mB, O2, _⟩ := ins_get I.hok hy
  obtain ⟨od2, J2, _⟩ := O2.look
  obtain ⟨m, hF⟩ := I.fr
  refine PySem.W.binop_K hF I.ok.mod.kin J J2.type hc hs hf ?_
  have q0 : sp ([.ref a, .ref b] ++ []) H Q E0 := q
  refine wpAny_mono (run_fn (us := [.ref a, .ref b]) (vs := [.ref a, .ref b]) F hr hb .nil pass0 I (.cons rfl (.cons rfl .nil)) q0) (fun w s' z => ?_) fun _ _ z => z
  obtain ⟨z', H', I', rz, qz⟩ := z
  exact SlX.cmpback rz ⟨z', H', I', rz, qz⟩
end
/-! ### C.m(..), m a static method -/
structure SMet (K : PySem.W.Frag) (C : Addr) (mc : Value) (m : Str) (p g : Addr) : Prop where
  at_ : PySem.W.findCls K (.ref C) mc m = some (.get (.builtin "staticmethod.__get__") (.ref p) .none (.ref C))
  rc : ∃ rest, PySem.W.recIn K p "staticmethod" = some (.ref g :: rest)
  kp : PySem.W.keepIn K (.ref g) = true
def tSMeth (C : Addr) (sp : Sp) (ta : TE) (t : TA) : TE := fun σ H Q => ta σ H fun x H1 => x = .ref C ∧ t σ H1 fun vs H2 => sp vs H2 Q E0
section
variable {X : Cx} {k : Nat} {ps : List Str} {C p g : Addr} {mc : Value} {sp : Sp} {fd : FuncData} {o e : Expr} {es : List Expr} {m : Str} {pos apos : Pos} {ta : TE} {t : TA} {pl : Sem Bool}
theorem pe_smeth (he : PE X o ta) (r : ClX.CRead X.K C mc) (c : SMet X.K C mc m p g) (F : FnOk X.prog X.w X.K X.mg X.base CX0 k g fd ps sp) (hb : Binds X.K fd ps []) (hr : Room k X.A) (ha : PA X (e :: es) t)
    (hst : starEach (e :: es) X.env = (false, eval e X.env) :: starEach es X.env := by rfl) (hpl : (backTo pos (starEach es X.env)).any (·.1) = false := by rfl)
    (ht : eval (.Call (.Attribute o m apos) (e :: es) [] pos) X.env = (do
      let ov ← eval o X.env
      standAt apos.atName
      let (f, first) ← holding [ov] (getMethod ov m pl)
      callWith pos f first (backTo pos (starEach (e :: es) X.env)) (backToKw pos (keywordEach [] X.env))) := by rfl) :
    PE X (.Call (.Attribute o m apos) (e :: es) [] pos) (tSMeth C sp ta t) := by
  refine ⟨fun pins s σ H Q I h => ?_⟩
  refine PySem.W.methodCall_KW (pl := pl) (thn (he.run pins s σ H _ I h) fun u s1 ⟨x, H1, I1, rx, ex, q⟩ => ?_) ht
  subst ex
  obtain rfl : u = Value.ref C := rx
  obtain ⟨rest, hp⟩ := c.rc
  refine PySem.W.method_cls I1.kIn r.ga (PySem.W.cls_bind I1.kIn r.rd c.at_ (wpAny_call (PySem.W.sm_get (s := { s1 with toks := s1.toks + 1 }) I1.kIn hp (PySem.W.handed_on rfl ?_))))
  have I2 := I1.tok (s1.toks + 1)
  refine PySem.W.callWith_K (first := []) (h₀ := X.base) I.ok.mod.kin c.kp (thn (ha.run pos pins _ σ H1 _ I2 q) fun us s2 ⟨vs, H2, I3, rv, q2⟩ => ⟨I3.kIn, ?_⟩) hst hpl
  have q0 : sp (vs ++ []) H2 Q E0 := by
    rw [List.append_nil]
    exact q2
  exact run_fn (us := us) F hr hb .nil pass0 I3 rv q0
end
/-! ### an instance called by one keyword -/
theorem callOK_of {M : Model} {A : Around} {E : Value → Shared → Prop} {s : Shared} {a : Addr} {pos : Pos} {Q : Value → Shared → Prop} {args : List (Bool × Sem Value)} {kws : List (Option Str × Sem Value)} (hplain : (args.any (·.1) || kws.any (·.1.isNone)) = false)
    (h : wpAny M A (evalArgs (.ref a) true args kws) (fun z s₁ => (∃ C ox od, PySem.W.InstAt s₁.heap a ox C od ∧ ox.data = .plain) ∧ wpAny M A (call (.ref a) ([] ++ z.pos) z.kw) Q E s₁) E s) : wpAny M A (callWith pos (.ref a) [] args kws) Q E s := by
  unfold callWith
  refine wpAny_bind (wpAny_holding (wpAny_mono h (fun z s₁ h₁ => wpAny_bind (wpAny_standAt ?_)) fun _ _ y => y))
  obtain ⟨⟨C, ox, od, J, hd⟩, h₁⟩ := h₁
  have L := PySem.W.kco_keeper (M := M) J hd
  simp only [hplain]
  refine wpAny_bind (L.here ?_)
  have tail : ∀ {t : Sem Value}, wpAny M A t Q E s₁ → wpAny M A (t >>= fun r => holding [r] point >>= fun _ => pure r) Q E s₁ :=
    fun ht => wpAny_bind (wpAny_mono ht (fun r s₂ hr => wpAny_bind (wpAny_holding (wpAny_point (wpAny_pure hr)))) fun _ _ y => y)
  exact tail (wpAny_operateT h₁)
section
variable {X : Cx} {k : Nat} {C g : Addr} {sp : Sp} {fd : FuncData} {fe e : Expr} {es : List Expr} {pos kpos : Pos} {p1 kw : Str} {tf : TE} {tk : TA} {t : TA}
/-- f(kw=e), f an instance of C -/
def tCallOK (X : Cx) (C : Addr) (sp : Sp) (tf : TE) (tk : TA) : TE := fun σ H Q => tf σ H fun y H1 => ∃ a, y = V.ref a ∧ tk σ H1 fun vs H2 => (∃ dx fs, H2 a = some (.ins C dx fs)) ∧ sp (V.ref a :: vs) H2 Q E0
theorem pe_callOK (hf : PE X fe tf) (c : StX.CallO X.K C g) (F : FnOk X.prog X.w X.K X.mg X.base CX0 k g fd [p1, kw] sp) (hb : ∀ (s : Shared) (u v : Value), X.K.In s.heap → BindsTo s fd ⟨[u], [(kw, v)]⟩ [(p1, u), (kw, v)]) (hr : Room k X.A) (hkw : PK X [⟨some kw, e, kpos⟩] tk)
    (hall : (backToKw pos (keywordEach [⟨some kw, e, kpos⟩] X.env)).all (·.1.isSome) = true := by rfl) (hks : (backToKw pos (keywordEach [⟨some kw, e, kpos⟩] X.env)).filterMap (·.1) = [kw] := by rfl)
    (hpl : ((backTo pos (starEach [] X.env)).any (·.1) || (backToKw pos (keywordEach [⟨some kw, e, kpos⟩] X.env)).any (·.1.isNone)) = false := by rfl)
    (ht : eval (.Call fe [] [⟨some kw, e, kpos⟩] pos) X.env = (do callWith pos (← eval fe X.env) [] (backTo pos (starEach [] X.env)) (backToKw pos (keywordEach [⟨some kw, e, kpos⟩] X.env))) := by rfl) :
    PE X (.Call fe [] [⟨some kw, e, kpos⟩] pos) (tCallOK X C sp tf tk) := by
  refine ⟨fun pins s σ H Q I h => ?_⟩
  rw [ht]
  refine wpAny_bind (thn (hf.run pins s σ H _ I h) fun u s1 ⟨y, H1, I1, ry, a, ey, q⟩ => ?_)
  subst ey
  obtain rfl : u = Value.ref a := ry
  refine callOK_of hpl (PyProof.Rows.evalArgs_kw2_nil hall (thn (hkw.run pos pins s1 σ H1 _ I1 q) fun ws s2 ⟨zs, H2, I2, rz, ⟨dx, fs, hi⟩, q2⟩ => ?_))
  obtain ⟨ox, od, J, hd⟩ := StX.insC_at I2 (C := C) (.inr ⟨dx, fs, hi⟩)
  refine ⟨⟨C, ox, od, J, hd⟩, ?_⟩
  rw [hks]
  have hl := F.len _ _ _ _ q2
  cases rz with
  | nil => cases hl
  | @cons v u vs us rv rr =>
    cases rr with
    | cons _ _ => cases hl
    | nil =>
      refine wpAny_call (PySem.W.kco_code I2.kIn J hd c.at_ c.fn c.fi (codeAny_mono (F.run X.A X.stack s2 H2 ⟨[.ref a], [(kw, u)]⟩ [.ref a, u] [.ref a, v] Q E0 hr I2.env0 (hb s2 _ _ I2.kIn) (.cons rfl (.cons rv .nil)) q2) fun r s' hq => ?_))
      cases r with
      | error e => exact False.elim hq
      | ok fl =>
        cases fl with
        | ret u => exact I2.after hq
        | next => exact False.elim hq
        | brk => exact False.elim hq
        | cont => exact False.elim hq
/-- a def by position, as a promise of its arguments alone -/
theorem fnR_of {ps : List Str} (F : FnOk X.prog X.w X.K X.mg X.base CX0 k g fd ps sp) (hb : Binds X.K fd ps []) : FnR X.prog X.w X.K X.mg X.base CX0 k g sp := by
  intro A outer s H us vs Q E hr e0 r h
  have hl : (us ++ []).length = ps.length := by
    rw [List.append_nil, ← r.length]
    exact F.len _ _ _ _ h
  have KX : X.K.In s.heap := e0.mod.kin.keeps fun b o e => (e0.bs b o e).1
  have hbb := hb s us KX hl
  rw [List.append_nil] at hbb
  exact F.run A outer s H ⟨us, []⟩ us vs Q E hr e0 hbb r h
end
/-! ### t[::-1] -/
section
variable {prog : Program} {w : World} {A : Around} {E : Value → Shared → Prop} {s : Shared}
open HT
theorem sliceApplied_rev {sl : Addr} {vl vu vs : Value} {n : Nat} {Q : Int × Int × Nat → Shared → Prop} (hs : s.heap.IsSliceOf sl vl vu vs) (pl : IsPart vl none) (pu : IsPart vu none) (ps : IsPart vs (some (-1)))
    (h : Q ((n : Int) - 1, -1, n) s) : wpAny (model prog w) A (Builtin.Slice.sliceApplied (.ref sl) (pure (n : Int))) Q E s := by
  obtain ⟨os, hos, hcs, hds⟩ := id hs
  unfold Builtin.Slice.sliceApplied Builtin.Slice.sliceFields
  refine wpAny_bind (wpAny_bind (wpAny_field hos hds (x := vl) rfl (wpAny_bind (wpAny_field hos hds (x := vu) rfl (wpAny_bind (wpAny_field hos hds (x := vs) rfl (wpAny_pure ?_)))))))
  refine wpAny_bind (slicePart_ ps ?_)
  show wpAny _ _ (if ((-1 : Int) == 0) = true then _ else _) _ _ s
  rw [if_neg (by decide)]
  refine wpAny_bind (slicePart_ pl (wpAny_bind (slicePart_ pu (wpAny_bind (wpAny_pure ?_)))))
  show wpAny _ _ (match Builtin.Slice.sliceAdjust none none (-1) (n : Int) with | (lo, hi) => pure (lo, (-1 : Int), Builtin.Slice.slicePlaces lo hi (-1))) _ _ s
  have e1 : Builtin.Slice.sliceAdjust none none (-1) (n : Int) = ((n : Int) - 1, -1) := rfl
  rw [e1]
  have e2 : Builtin.Slice.slicePlaces ((n : Int) - 1) (-1) (-1) = n := by
    unfold Builtin.Slice.slicePlaces
    rw [if_neg (by decide)]
    split
    · rw [show (-(-1 : Int)) = 1 by decide, Int.ediv_one]
      omega
    · omega
  show wpAny _ _ (pure ((n : Int) - 1, (-1 : Int), Builtin.Slice.slicePlaces ((n : Int) - 1) (-1) (-1))) _ _ s
  rw [e2]
  exact wpAny_pure h
theorem fm_congr {α β : Type} {f g : α → Option β} : ∀ {l : List α}, (∀ a ∈ l, f a = g a) → l.filterMap f = l.filterMap g
  | [], _ => rfl
  | a :: l, h => by
    rw [List.filterMap_cons, List.filterMap_cons, h a List.mem_cons_self, fm_congr fun b hb => h b (List.mem_cons_of_mem _ hb)]
theorem pick_rev (xs : Array Value) : ((List.range xs.size).filterMap fun (m : Nat) => xs[(((xs.size : Int) - 1) + (m : Int) * (-1)).toNat]?).toArray = xs.toList.reverse.toArray := by
  have e : ∀ m ∈ List.range xs.size, xs[(((xs.size : Int) - 1) + (m : Int) * (-1)).toNat]? = xs[xs.size - 1 - m]? := fun m hm => by
    have : m < xs.size := List.mem_range.mp hm
    have : (((xs.size : Int) - 1) + (m : Int) * (-1)).toNat = xs.size - 1 - m := by omega
    rw [this]
  rw [fm_congr e]
  have e3 : (List.range xs.size).filterMap (fun m => xs[xs.size - 1 - m]?) = ((List.range xs.size).map fun k => xs.size - 1 - k).filterMap (xs[·]?) := by
    rw [List.filterMap_map]
    rfl
  rw [e3, PySem.W.krv_range, List.filterMap_reverse, PySem.W.krv_all]
theorem getItem_tuple_rev {t sl : Addr} {items : Array Value} {vl vu vs : Value} {Q : Value → Shared → Prop} (ht : IsTup s.heap t items) (hs : s.heap.IsSliceOf sl vl vu vs) (pl : IsPart vl none) (pu : IsPart vu none) (ps : IsPart vs (some (-1)))
    (h : Q (.ref s.heap.objs.size) { s with heap := s.heap.push { cls := .type "tuple", data := .seq items.toList.reverse.toArray } })
    (hsz : items.size ≤ sizeLine) : wpAny (model prog w) A (getItem (.ref t) (.ref sl)) Q E s := by
  have htake : sizeOk (.seq items.toList.reverse.toArray) := by
    show items.toList.reverse.toArray.size ≤ sizeLine
    rw [List.size_toArray, List.length_reverse, Array.length_toList]
    exact hsz
  obtain ⟨os, hos, hcs, hds⟩ := id hs
  have hTs : s.TypeIs (.ref sl) "slice" := ⟨os, hos, hcs⟩
  unfold getItem
  try with_reducible refine wpAny_holding ?_
  first | refine wpAny_bind (wpAny_pure ?_) | skip
  refine wpAny_bind (wpAny_sequenceKey ht.typeIs (by decide) ?_)
  refine wpAny_bind (wpAny_callSpecial?_slot (name := Str.ofString "__getitem__") ht.typeIs PyProof.Rows.slot_tuple_getitem
    (wpAny_call_entry PyProof.Rows.slot_tuple_getitem ht.typeIs entry_tuple_getitem ?_ (args_tuple_getitem _ _)))
  show wpAny _ _ (Builtin.Tuple.tupleItemsOf (.ref t) >>= _) _ _ s
  refine wpAny_bind (tupleItemsOf_ ht ?_)
  refine wpAny_bind (wpAny_typeOf hTs ?_)
  rw [if_pos (by decide)]
  refine wpAny_bind (sliceApplied_rev hs pl pu ps ?_)
  show wpAny _ _ (if ((((items.size : Int) - 1) == 0 && (-1 : Int) == 1 && items.size == items.size) = true) then _ else _) _ _ s
  rw [if_neg (by rw [show ((-1 : Int) == 1) = false by decide, Bool.and_false, Bool.false_and]; exact Bool.false_ne_true), pick_rev]
  first
    | exact wpAny_bind (m := Builtin.Tuple.tupleExact _) (wpAny_newObj_type (wpAny_pure ⟨_, rfl, wpAny_pure h⟩) htake)
    | exact wpAny_bind (m := Builtin.Tuple.tupleExact _) (wpAny_newObj_type (wpAny_bind (wpAny_pure (wpAny_pure ⟨_, rfl, wpAny_pure h⟩))) htake)
    | exact wpAny_bind (wpAny_bind (m := Builtin.Tuple.tupleExact _) (wpAny_newObj_type (wpAny_pure (wpAny_pure ⟨_, rfl, wpAny_pure h⟩)) htake))
    | exact wpAny_bind (wpAny_bind (m := Builtin.Tuple.tupleExact _) (wpAny_newObj_type (wpAny_pure ⟨_, rfl, wpAny_pure h⟩) htake))
end
section
variable {X : Cx}
def tRevT (K : PySem.W.Frag) (te : TE) : TE := fun σ H Q => te σ H fun x H1 => ∃ a xs, x = .ref a ∧ SqT K H1 a xs ∧ ∀ p, H1 p = none → Q (.ref p) (upd H1 p (.tup xs.reverse))
theorem pe_revT {e : Expr} {te : TE} {k : Nat} {p1 p2 p3 pos : Pos} (he : PE X e te) : PE X (.Subscript e (.Slice none none (some (.UnaryOp .USub (.Constant (.int 1) k p1) p2)) p3) pos) (tRevT X.K te) := by
  refine ⟨fun pins s σ H Q I h => ?_⟩
  refine Subscript_ (thn (he.run pins s σ H _ I h) fun v s1 ⟨x, H1, I1, r1, q1⟩ => ?_)
  obtain ⟨a, xs, ex, hx, q⟩ := q1
  subst ex
  cases r1
  have hst : PO X (some (.UnaryOp .USub (.Constant (.int 1) k p1) p2)) (tPart (tUn (rU fun i => .int (-i)) (tC (.int 1)))) := po_some (pe_un un_neg pe_int)
  refine wpAny_Slice (thn (po_none.run pins s1 σ H1 (fun o H2 => o = none ∧ H2 = H1) I1 ⟨rfl, rfl⟩) fun vl s2 ⟨l, H2, I2, pl, el, e2⟩ => ?_)
  subst el e2
  refine thn (po_none.run pins s2 σ H2 (fun o H3 => o = none ∧ H3 = H2) I2 ⟨rfl, rfl⟩) fun vu s3 ⟨u, H3, I3, pu, eu, e3⟩ => ?_
  subst eu e3
  refine thn (hst.run pins s3 σ H3 (fun o H4 => o = some (-1) ∧ H4 = H3) I3 ⟨1, rfl, -1, rfl, rfl, rfl⟩) fun vs s4 ⟨o, H4, I4, ps, eo, e4⟩ => ?_
  subst eo e4
  have I5 : Inv X pins σ H4 { s4 with heap := s4.heap.push { cls := .type "slice", data := .fields #[vl, vu, vs] } } := I4.kept (t' := s4.toks) fun b ob q => Heap.get?_push_of_some _ q
  obtain ⟨its, r, ht, hz⟩ := I5.tuple hx
  have hlen := r.length
  show wpAny (model X.prog X.w) X.A (subscriptTail e (.Slice none none (some (.UnaryOp .USub (.Constant (.int 1) k p1) p2)) p3) (.ref a) (.ref s4.heap.objs.size)) (EP X pins σ Q) X.xe { s4 with heap := s4.heap.push { cls := .type "slice", data := .fields #[vl, vu, vs] } }
  refine tail_any (ops := [.ref a, .ref s4.heap.objs.size]) ht.typeIs PyProof.Rows.slot_tuple_getitem.lookup ?_ (by with_unfolding_all rfl)
  refine getItem_tuple_rev ht (Heap.IsSliceOf.new _ vl vu vs) pl pu ps ?_ (by rw [List.size_toArray]; omega)
  refine ⟨.ref _, _, I5.laid (t' := s4.toks) (o := .tup xs.reverse) (fun b ob q => Heap.get?_push_of_some _ q) (Nat.le_refl _) ?_, rfl, q _ (I5.hok.fresh (Nat.le_refl _))⟩
  exact ⟨by rw [List.length_reverse]; exact hz, _, r.reverse, IsTup.new _ _⟩
/-! ### x in a tuple of data -/
def rInT (K : PySem.W.Frag) : R2 := fun x y H Q => ∃ d ds, Dp K H x d ∧ Dp K H y (.tuple ds) ∧ SeqAt.shaped d = true ∧ SeqAt.shaped (.tuple ds) = true ∧ Q (.bl (ds.any fun z => PyData.eqv z d)) H
theorem op_inT (hu : X.A.units + 65 < cLine) : OpR X (compareOp .In) (rInT X.K) := by
  intro pins s σ H x y v u Q I rx ry h
  obtain ⟨d, ds, hd, he, sd, se, q⟩ := h
  obtain ⟨as, r1⟩ := Dp.reads I d x v hd rx
  obtain ⟨bs, r2⟩ := Dp.reads I (.tuple ds) y u he ry
  exact SeqAt.in_tuple_reads r2 r1 (SeqAt.canLay_of_shaped se) (SeqAt.canLay_of_shaped sd) (room_in_shaped sd hu) ⟨.bl _, H, I, rfl, q⟩
end
end RL

/-! The mathematics of rows of pieces: their maps, what they show. -/
namespace RL
/-- a piece: is it a rail, its ohms -/
abbrev Pc := Bool × Int
def PcOk (p : Pc) : Prop := 1 ≤ p.2 ∧ p.2 ≤ 12
structure Mx where
  a : Int
  b : Int
  c : Int
  d : Int
def stepM (m : Mx) (p : Pc) : Mx := if p.1 = true then ⟨m.a, m.a * p.2 + m.b, m.c, m.c * p.2 + m.d⟩ else ⟨m.a * p.2 + m.b, m.b * p.2, m.c * p.2 + m.d, m.d * p.2⟩
def stepS (s : Int) (p : Pc) : Int := if p.1 = true then s else s * p.2
def m1 : Mx := ⟨1, 0, 0, 1⟩
def matR (r : List Pc) : Mx := r.foldl stepM m1
def sclR (r : List Pc) : Int := r.foldl stepS 1
/-- what a map makes of a pair -/
def Mx.app (m : Mx) (e : Int × Int) : Int × Int := (m.a * e.1 + m.b * e.2, m.c * e.1 + m.d * e.2)
def act (p : Pc) (e : Int × Int) : Int × Int := if p.1 = true then (e.1 + p.2 * e.2, e.2) else (p.2 * e.1, e.1 + p.2 * e.2)
def actR (r : List Pc) (e : Int × Int) : Int × Int := r.foldr act e
theorem app_step (m : Mx) (p : Pc) (e : Int × Int) : (stepM m p).app e = m.app (act p e) := by
  unfold stepM act Mx.app
  split <;> (ext <;> dsimp <;> grind)
theorem app_fold (r : List Pc) : ∀ (m : Mx) (e : Int × Int), (r.foldl stepM m).app e = m.app (actR r e) := by
  induction r with
  | nil => exact fun _ _ => rfl
  | cons p r ih =>
    intro m e
    rw [List.foldl_cons, ih, app_step]
    rfl
theorem app_one (e : Int × Int) : m1.app e = e := by
  unfold Mx.app m1
  ext <;> dsimp <;> omega
theorem mat_app (r : List Pc) (e : Int × Int) : (matR r).app e = actR r e := by
  unfold matR
  rw [app_fold, app_one]
theorem act_app (r r' : List Pc) (e : Int × Int) : actR (r ++ r') e = actR r (actR r' e) := List.foldr_append ..
/-- a pair that stands for a fraction or an open end -/
def Pos2 (e : Int × Int) : Prop := 0 ≤ e.1 ∧ 0 ≤ e.2 ∧ (0 < e.1 ∨ 0 < e.2)
def sc (k : Int) (e : Int × Int) : Int × Int := (k * e.1, k * e.2)
theorem act_pos {p : Pc} {e : Int × Int} (hp : PcOk p) (h : Pos2 e) : Pos2 (act p e) := by
  obtain ⟨h1, h2, h3⟩ := h
  obtain ⟨q1, q2⟩ := hp
  have m1 := Int.mul_nonneg (show 0 ≤ p.2 by omega) h1
  have m2 := Int.mul_nonneg (show 0 ≤ p.2 by omega) h2
  unfold act Pos2
  split
  · dsimp
    omega
  · dsimp
    refine ⟨m1, by omega, ?_⟩
    rcases h3 with h3 | h3
    · exact .inl (Int.mul_pos (by omega) h3)
    · have := Int.mul_pos (show 0 < p.2 by omega) h3
      exact .inr (by omega)
def RowOk (r : List Pc) : Prop := ∀ p ∈ r, PcOk p
theorem RowOk.tail {p : Pc} {r : List Pc} (h : RowOk (p :: r)) : RowOk r := fun q hq => h q (List.mem_cons_of_mem _ hq)
theorem RowOk.head {p : Pc} {r : List Pc} (h : RowOk (p :: r)) : PcOk p := h p List.mem_cons_self
theorem RowOk.app {r r' : List Pc} (h : RowOk r) (h' : RowOk r') : RowOk (r ++ r') := fun q hq => (List.mem_append.mp hq).elim (h q) (h' q)
theorem actR_pos {r : List Pc} {e : Int × Int} (hr : RowOk r) (h : Pos2 e) : Pos2 (actR r e) := by
  induction r with
  | nil => exact h
  | cons p r ih => exact act_pos hr.head (ih hr.tail)
theorem act_sc (p : Pc) (k : Int) (e : Int × Int) : act p (sc k e) = sc k (act p e) := by
  unfold act sc
  split <;> (ext <;> dsimp <;> grind)
theorem actR_sc (r : List Pc) (k : Int) (e : Int × Int) : actR r (sc k e) = sc k (actR r e) := by
  induction r with
  | nil => rfl
  | cons p r ih =>
    show act p (actR r (sc k e)) = _
    rw [ih, act_sc]
    rfl
/-- .. as the law walks -/
def frt (p : Pc) (e : Int × Int) : Int × Int := if p.1 = true then (e.1 + p.2 * e.2, e.2) else if e.2 = 0 then (p.2, 1) else (p.2 * e.1, p.2 * e.2 + e.1)
def frtR (r : List Pc) (e : Int × Int) : Int × Int := r.foldr frt e
theorem frt_act {p : Pc} {e : Int × Int} (hp : PcOk p) (h : Pos2 e) : ∃ k, 0 < k ∧ act p e = sc k (frt p e) := by
  unfold act frt sc
  split
  · exact ⟨1, by decide, by ext <;> dsimp <;> omega⟩
  · split
    · rename_i z
      refine ⟨e.1, by have := h.2.2; omega, ?_⟩
      ext
      · dsimp
        grind
      · dsimp
        rw [z]
        omega
    · exact ⟨1, by decide, by ext <;> dsimp <;> omega⟩
theorem frt_pos {p : Pc} {e : Int × Int} (hp : PcOk p) (h : Pos2 e) : Pos2 (frt p e) := by
  obtain ⟨k, hk, ek⟩ := frt_act hp h
  have := act_pos hp h
  rw [ek] at this
  unfold sc Pos2 at this
  obtain ⟨a, b, c⟩ := this
  have t1 : ∀ x : Int, 0 ≤ k * x → 0 ≤ x := fun x hx => by
    rcases Int.lt_or_le x 0 with z | z
    · have := Int.mul_neg_of_pos_of_neg hk z
      omega
    · exact z
  have t2 : ∀ x : Int, 0 < k * x → 0 < x := fun x hx => by
    rcases Int.lt_or_le 0 x with z | z
    · exact z
    · have := Int.mul_nonpos_of_nonneg_of_nonpos (Int.le_of_lt hk) z
      omega
  exact ⟨t1 _ a, t1 _ b, c.imp (t2 _) (t2 _)⟩
theorem frtR_pos {r : List Pc} {e : Int × Int} (hr : RowOk r) (h : Pos2 e) : Pos2 (frtR r e) := by
  induction r with
  | nil => exact h
  | cons p r ih => exact frt_pos hr.head (ih hr.tail)
theorem sc_sc (j k : Int) (e : Int × Int) : sc j (sc k e) = sc (j * k) e := by
  unfold sc
  ext <;> dsimp <;> grind
theorem frtR_act {r : List Pc} {e : Int × Int} (hr : RowOk r) (h : Pos2 e) : ∃ k, 0 < k ∧ actR r e = sc k (frtR r e) := by
  induction r with
  | nil => exact ⟨1, by decide, by unfold sc; ext <;> dsimp [actR, frtR] <;> omega⟩
  | cons p r ih =>
    obtain ⟨k, hk, ek⟩ := ih hr.tail
    obtain ⟨j, hj, ej⟩ := frt_act hr.head (frtR_pos hr.tail h)
    refine ⟨k * j, Int.mul_pos hk hj, ?_⟩
    show act p (actR r e) = sc (k * j) (frt p (frtR r e))
    rw [ek, act_sc, ej, sc_sc]
/-! ### lowest terms -/
def low (e : Int × Int) : Int × Int := (e.1 / gc e.1 e.2, e.2 / gc e.1 e.2)
theorem gc_pos2 {e : Int × Int} (h : Pos2 e) : 0 < gc e.1 e.2 := gc_pos (by have := h.2.2; omega)
theorem gc_sm {t b : Int} {n : Nat} (h : Pos2 (t, b)) (ht : Sm n t) (hb : Sm n b) : Sm n (gc t b) := by
  have g0 : 0 < gc t b := gc_pos2 h
  rcases h.2.2 with z | z
  · have := Int.le_of_dvd z (gc_dvd1 t b)
    exact ht.of (by omega) this
  · have := Int.le_of_dvd z (gc_dvd2 t b)
    exact hb.of (by omega) this
theorem low_sc {k : Int} (hk : 0 < k) (e : Int × Int) : low (sc k e) = low e := by
  unfold low sc
  dsimp
  rw [gc_mul (Int.le_of_lt hk), Int.mul_ediv_mul_of_pos _ _ hk, Int.mul_ediv_mul_of_pos _ _ hk]
theorem low_is {e : Int × Int} (h : Pos2 e) : e = sc (gc e.1 e.2) (low e) := by
  unfold low sc
  ext
  · exact ex_mul (gc_dvd1 _ _) (gc_pos2 h)
  · exact ex_mul (gc_dvd2 _ _) (gc_pos2 h)
theorem pos_sc {k : Int} {e : Int × Int} (hk : 0 < k) (h : Pos2 (sc k e)) : Pos2 e := by
  unfold sc Pos2 at h
  obtain ⟨a, b, c⟩ := h
  have t1 : ∀ x : Int, 0 ≤ k * x → 0 ≤ x := fun x hx => by
    rcases Int.lt_or_le x 0 with z | z
    · have := Int.mul_neg_of_pos_of_neg hk z
      omega
    · exact z
  have t2 : ∀ x : Int, 0 < k * x → 0 < x := fun x hx => by
    rcases Int.lt_or_le 0 x with z | z
    · exact z
    · have := Int.mul_nonpos_of_nonneg_of_nonpos (Int.le_of_lt hk) z
      omega
  exact ⟨t1 _ a, t1 _ b, c.imp (t2 _) (t2 _)⟩
theorem low_pos {e : Int × Int} (h : Pos2 e) : Pos2 (low e) := pos_sc (gc_pos2 h) (by rw [← low_is h]; exact h)
theorem low_low {e : Int × Int} (h : Pos2 e) : low (low e) = low e := by
  have := low_sc (gc_pos2 h) (low e)
  rw [← low_is h] at this
  exact this.symm
/-- what the map shows is what the walk shows -/
theorem shows_front {r : List Pc} {e : Int × Int} (hr : RowOk r) (h : Pos2 e) : low ((matR r).app e) = low (frtR r e) := by
  obtain ⟨k, hk, ek⟩ := frtR_act hr h
  rw [mat_app, ek, low_sc hk]
theorem shows_two {r r' : List Pc} {e : Int × Int} (hr : RowOk r) (hr' : RowOk r') (h : Pos2 e) : low ((matR (r ++ r')).app e) = low (frtR r (low (frtR r' e))) := by
  have p' := frtR_pos hr' h
  have pl := low_pos p'
  obtain ⟨k, hk, ek⟩ := frtR_act hr pl
  obtain ⟨j, hj, ej⟩ := frtR_act hr' h
  rw [mat_app, act_app, ej, actR_sc, low_sc hj]
  conv => lhs; rw [low_is p']
  rw [actR_sc, low_sc (gc_pos2 p'), ek, low_sc hk]
/-! ### the four fractions -/
theorem low_frac {x s : Int} (hs : 0 < s) : 0 < s / gc x s ∧ x / gc x s * s = s / gc x s * x := by
  have g0 : 0 < gc x s := gc_pos (.inr (by omega))
  have e1 := ex_mul (gc_dvd1 x s) g0
  have e2 := ex_mul (gc_dvd2 x s) g0
  refine ⟨?_, ?_⟩
  · rcases Int.lt_or_le 0 (s / gc x s) with z | z
    · exact z
    · have := Int.mul_nonpos_of_nonneg_of_nonpos (Int.le_of_lt g0) z
      omega
  · generalize x / gc x s = u at *
    generalize s / gc x s = v at *
    generalize gc x s = g at *
    subst e1
    rw [e2]
    grind
theorem by_numbers {m : Mx} {s : Int} {e : Int × Int} (hs : 0 < s) {a0 a1 b0 b1 c0 c1 d0 d1 : Int} (ha : 0 < a1 ∧ a0 * s = a1 * m.a) (hb : 0 < b1 ∧ b0 * s = b1 * m.b) (hc : 0 < c1 ∧ c0 * s = c1 * m.c) (hd : 0 < d1 ∧ d0 * s = d1 * m.d) :
    low ((a0 * b1 * e.1 + b0 * a1 * e.2) * c1 * d1, (c0 * d1 * e.1 + d0 * c1 * e.2) * a1 * b1) = low (m.app e) := by
  have hP : 0 < a1 * b1 * c1 * d1 := Int.mul_pos (Int.mul_pos (Int.mul_pos ha.1 hb.1) hc.1) hd.1
  rw [← low_sc hs, ← low_sc hP (m.app e)]
  congr 1
  unfold sc Mx.app
  obtain ⟨_, ha⟩ := ha
  obtain ⟨_, hb⟩ := hb
  obtain ⟨_, hc⟩ := hc
  obtain ⟨_, hd⟩ := hd
  ext
  · dsimp
    grind
  · dsimp
    grind
theorem by_numbers_pos {m : Mx} {s : Int} {e : Int × Int} (hs : 0 < s) {a0 a1 b0 b1 c0 c1 d0 d1 : Int} (ha : 0 < a1 ∧ a0 * s = a1 * m.a) (hb : 0 < b1 ∧ b0 * s = b1 * m.b) (hc : 0 < c1 ∧ c0 * s = c1 * m.c) (hd : 0 < d1 ∧ d0 * s = d1 * m.d) (hp : Pos2 (m.app e)) :
    Pos2 ((a0 * b1 * e.1 + b0 * a1 * e.2) * c1 * d1, (c0 * d1 * e.1 + d0 * c1 * e.2) * a1 * b1) := by
  have hP : 0 < a1 * b1 * c1 * d1 := Int.mul_pos (Int.mul_pos (Int.mul_pos ha.1 hb.1) hc.1) hd.1
  refine pos_sc hs ?_
  have e1 : sc s ((a0 * b1 * e.1 + b0 * a1 * e.2) * c1 * d1, (c0 * d1 * e.1 + d0 * c1 * e.2) * a1 * b1) = sc (a1 * b1 * c1 * d1) (m.app e) := by
    unfold sc Mx.app
    obtain ⟨_, ha⟩ := ha
    obtain ⟨_, hb⟩ := hb
    obtain ⟨_, hc⟩ := hc
    obtain ⟨_, hd⟩ := hd
    ext
    · dsimp
      grind
    · dsimp
      grind
  rw [e1]
  obtain ⟨p1, p2, p3⟩ := hp
  exact ⟨Int.mul_nonneg (Int.le_of_lt hP) p1, Int.mul_nonneg (Int.le_of_lt hP) p2, p3.imp (Int.mul_pos hP) (Int.mul_pos hP)⟩
/-! ### signs and sizes -/
def MxOk (m : Mx) : Prop := 0 ≤ m.a ∧ 0 ≤ m.b ∧ 0 ≤ m.c ∧ 0 ≤ m.d ∧ 0 < m.a * m.d - m.b * m.c
theorem step_ok {m : Mx} {p : Pc} (hp : PcOk p) (h : MxOk m) : MxOk (stepM m p) := by
  obtain ⟨h1, h2, h3, h4, h5⟩ := h
  have q0 : 0 ≤ p.2 := by have := hp.1; omega
  have z1 := Int.mul_nonneg h1 q0
  have z2 := Int.mul_nonneg h2 q0
  have z3 := Int.mul_nonneg h3 q0
  have z4 := Int.mul_nonneg h4 q0
  unfold stepM MxOk
  split
  · dsimp
    refine ⟨h1, by omega, h3, by omega, ?_⟩
    have : m.a * (m.c * p.2 + m.d) - (m.a * p.2 + m.b) * m.c = m.a * m.d - m.b * m.c := by grind
    omega
  · dsimp
    refine ⟨by omega, by omega, by omega, by omega, ?_⟩
    have : (m.a * p.2 + m.b) * (m.d * p.2) - m.b * p.2 * (m.c * p.2 + m.d) = p.2 * p.2 * (m.a * m.d - m.b * m.c) := by grind
    rw [this]
    have q1 : 0 < p.2 := by have := hp.1; omega
    exact Int.mul_pos (Int.mul_pos q1 q1) h5
theorem fold_ok {r : List Pc} : ∀ {m : Mx}, RowOk r → MxOk m → MxOk (r.foldl stepM m) := by
  induction r with
  | nil => exact fun _ h => h
  | cons p r ih => exact fun hr h => ih hr.tail (step_ok hr.head h)
theorem matR_ok {r : List Pc} (hr : RowOk r) : MxOk (matR r) := fold_ok hr ⟨by decide, by decide, by decide, by decide, by decide⟩
theorem scl_fold {r : List Pc} : ∀ {s : Int}, RowOk r → 0 < s → 0 < r.foldl stepS s := by
  induction r with
  | nil => exact fun _ h => h
  | cons p r ih =>
    intro s hr h
    refine ih hr.tail ?_
    unfold stepS
    split
    · exact h
    · exact Int.mul_pos h (by have := hr.head.1; omega)
theorem sclR_pos {r : List Pc} (hr : RowOk r) : 0 < sclR r := scl_fold hr (by decide)
def MxSm (n : Nat) (m : Mx) : Prop := Sm n m.a ∧ Sm n m.b ∧ Sm n m.c ∧ Sm n m.d
theorem ohm_sm {p : Pc} (hp : PcOk p) : Sm 4 p.2 := by
  obtain ⟨h1, h2⟩ := hp
  unfold Sm
  omega
theorem step_sm {m : Mx} {p : Pc} {n : Nat} (hp : PcOk p) (h : MxSm n m) : MxSm (n + 5) (stepM m p) := by
  obtain ⟨h1, h2, h3, h4⟩ := h
  have o := ohm_sm hp
  have up : ∀ {x : Int}, Sm n x → Sm (n + 4) x := fun z => z.mono (by omega)
  unfold stepM MxSm
  split
  · exact ⟨h1.mono (by omega), (h1.mul o).add (up h2), h3.mono (by omega), (h3.mul o).add (up h4)⟩
  · exact ⟨(h1.mul o).add (up h2), (h2.mul o).mono (by omega), (h3.mul o).add (up h4), (h4.mul o).mono (by omega)⟩
theorem fold_sm {r : List Pc} : ∀ {m : Mx} {n : Nat}, RowOk r → MxSm n m → MxSm (n + 5 * r.length) (r.foldl stepM m) := by
  induction r with
  | nil => exact fun _ h => h
  | cons p r ih =>
    intro m n hr h
    have := ih hr.tail (step_sm hr.head h)
    rw [List.foldl_cons, List.length_cons]
    have e : n + 5 * (r.length + 1) = n + 5 + 5 * r.length := by omega
    rw [e]
    exact this
theorem MxSm.mono {m n : Nat} {x : Mx} (h : MxSm m x) (l : m ≤ n) : MxSm n x := ⟨h.1.mono l, h.2.1.mono l, h.2.2.1.mono l, h.2.2.2.mono l⟩
theorem m1_sm : MxSm 1 m1 := ⟨by unfold Sm; decide, by unfold Sm; decide, by unfold Sm; decide, by unfold Sm; decide⟩
theorem matR_sm {r : List Pc} (hr : RowOk r) (hl : r.length ≤ 8) : MxSm 41 (matR r) := (fold_sm hr m1_sm).mono (by omega)
theorem scl_sm {r : List Pc} : ∀ {s : Int} {n : Nat}, RowOk r → Sm n s → Sm (n + 4 * r.length) (r.foldl stepS s) := by
  induction r with
  | nil => exact fun _ h => h
  | cons p r ih =>
    intro s n hr h
    rw [List.foldl_cons, List.length_cons]
    have e : n + 4 * (r.length + 1) = n + 4 + 4 * r.length := by omega
    rw [e]
    refine ih hr.tail ?_
    unfold stepS
    split
    · exact h.mono (by omega)
    · exact h.mul (ohm_sm hr.head)
theorem sclR_sm {r : List Pc} (hr : RowOk r) (hl : r.length ≤ 8) : Sm 41 (sclR r) := (scl_sm (n := 1) hr (by unfold Sm; decide)).mono (by omega)
theorem frt_sm {p : Pc} {e : Int × Int} {n : Nat} (hp : PcOk p) (h1 : Sm n e.1) (h2 : Sm n e.2) : Sm (n + 5) (frt p e).1 ∧ Sm (n + 5) (frt p e).2 := by
  have o := ohm_sm hp
  have up : ∀ {x : Int}, Sm n x → Sm (n + 4) x := fun z => z.mono (by omega)
  have c : ∀ {x y : Int}, Sm n x → Sm n y → Sm (n + 5) (x + p.2 * y) := fun hx hy => (up hx).add ((o.mul hy).mono (by omega))
  have c' : ∀ {x y : Int}, Sm n x → Sm n y → Sm (n + 5) (p.2 * y + x) := fun hx hy => by
    rw [Int.add_comm]
    exact c hx hy
  unfold frt
  split
  · exact ⟨c h1 h2, h2.mono (by omega)⟩
  · split
    · exact ⟨o.mono (by omega), Sm.mono (m := 1) (x := (1 : Int)) (by unfold Sm; decide) (by omega)⟩
    · exact ⟨(o.mul h1).mono (by omega), c' h1 h2⟩
theorem frtR_sm {r : List Pc} {e : Int × Int} {n : Nat} (hr : RowOk r) (h1 : Sm n e.1) (h2 : Sm n e.2) : Sm (n + 5 * r.length) (frtR r e).1 ∧ Sm (n + 5 * r.length) (frtR r e).2 := by
  induction r with
  | nil => exact ⟨h1, h2⟩
  | cons p r ih =>
    obtain ⟨a, b⟩ := ih hr.tail
    rw [List.length_cons]
    have e2 : n + 5 * (r.length + 1) = n + 5 * r.length + 5 := by omega
    rw [e2]
    exact frt_sm hr.head a b
theorem app_sm {m : Mx} {e : Int × Int} {j k : Nat} (h : MxSm j m) (h1 : Sm k e.1) (h2 : Sm k e.2) : Sm (j + k + 1) (m.app e).1 ∧ Sm (j + k + 1) (m.app e).2 :=
  ⟨(h.1.mul h1).add (h.2.1.mul h2), (h.2.2.1.mul h1).add (h.2.2.2.mul h2)⟩
theorem low_sm {e : Int × Int} {n : Nat} (h : Pos2 e) (h1 : Sm n e.1) (h2 : Sm n e.2) : Sm n (low e).1 ∧ Sm n (low e).2 := ⟨h1.div (gc_pos2 h), h2.div (gc_pos2 h)⟩
/-! ### what is shown rises with the load -/
def below (e f : Int × Int) : Bool := decide (e.1 * f.2 < f.1 * e.2)
theorem below_sc {j k : Int} (hj : 0 < j) (hk : 0 < k) (e f : Int × Int) : below (sc j e) (sc k f) = below e f := by
  unfold below sc
  rw [Bool.eq_iff_iff, decide_eq_true_iff, decide_eq_true_iff]
  dsimp
  have h : 0 < j * k := Int.mul_pos hj hk
  have e1 : j * e.1 * (k * f.2) = j * k * (e.1 * f.2) := by grind
  have e2 : k * f.1 * (j * e.2) = j * k * (f.1 * e.2) := by grind
  rw [e1, e2]
  exact ⟨fun z => Int.lt_of_mul_lt_mul_left z (Int.le_of_lt h), fun z => Int.mul_lt_mul_of_pos_left z h⟩
theorem below_app {m : Mx} (h : MxOk m) (e f : Int × Int) : below (m.app e) (m.app f) = below e f := by
  unfold below Mx.app
  rw [Bool.eq_iff_iff, decide_eq_true_iff, decide_eq_true_iff]
  dsimp
  obtain ⟨_, _, _, _, hd⟩ := h
  have e1 : (m.a * e.1 + m.b * e.2) * (m.c * f.1 + m.d * f.2) - (m.a * f.1 + m.b * f.2) * (m.c * e.1 + m.d * e.2) = (m.a * m.d - m.b * m.c) * (e.1 * f.2 - f.1 * e.2) := by grind
  constructor
  · intro z
    rcases Int.lt_or_le (e.1 * f.2 - f.1 * e.2) 0 with y | y
    · omega
    · have := Int.mul_nonneg (Int.le_of_lt hd) y
      omega
  · intro z
    have := Int.mul_neg_of_pos_of_neg hd (show e.1 * f.2 - f.1 * e.2 < 0 by omega)
    omega
theorem below_low {e f : Int × Int} (he : Pos2 e) (hf : Pos2 f) : below (low e) (low f) = below e f := by
  conv => rhs; rw [low_is he, low_is hf]
  rw [below_sc (gc_pos2 he) (gc_pos2 hf)]
theorem app_pos {r : List Pc} {e : Int × Int} (hr : RowOk r) (h : Pos2 e) : Pos2 ((matR r).app e) := by
  rw [mat_app]
  exact actR_pos hr h
theorem below_shows {r : List Pc} {e f : Int × Int} (hr : RowOk r) (he : Pos2 e) (hf : Pos2 f) : below (low (frtR r e)) (low (frtR r f)) = below e f := by
  rw [← shows_front hr he, ← shows_front hr hf, below_low (app_pos hr he) (app_pos hr hf), below_app (matR_ok hr)]
end RL

namespace RL
open PySem L2
def top (i : Nat) : Stmt := PySem.Challenge.pw_rungladders_k72_patterns_and_limits_judg.main.body.getD i (.Pass ⟨0, 0, 0, 0⟩)
/-! ### a def as its callers see it -/
structure Df (P : Program) (w : World) (K : PySem.W.Frag) (mg : Str → Option Value) (base : Heap) (k : Nat) (x : Str) (ps : List Str) (sp : Sp) : Prop where
  ex : ∃ (f : Addr) (fd : FuncData), FnOk P w K mg base CX0 k f fd ps sp ∧ mg x = some (.ref f) ∧ PySem.W.keepIn K (.ref f) = true ∧ Binds K fd ps []
section
variable {X : Cx} {k : Nat} {ps : List Str} {sp : Sp} {x : Str} {p pos : Pos} {e : Expr} {es : List Expr} {t : TA}
theorem pe_df (D : Df X.prog X.w X.K X.mg X.base k x ps sp) (hr : Room k X.A) (hg : Gl X x)
    (ha : PA X (e :: es) t) (hdb : (x == ("__debug__" : Str)) = false := by decide) (he : starEach (e :: es) X.env = (false, eval e X.env) :: starEach es X.env := by rfl) (hpl : (backTo pos (starEach es X.env)).any (·.1) = false := by rfl) :
    PE X (.Call (.Name x p) (e :: es) [] pos) (tCall sp [] E0 t) := by
  obtain ⟨f, fd, G, hm, hk, hb⟩ := D.ex
  exact pe_call G hr hg hm hk hb .nil pass0 ha hdb he hpl
end
theorem pe_fldK {X : Cx} {K : PySem.W.Frag} {e : Expr} {f : Str} {pos : Pos} {ta : TE} (he : PE X e ta) (hK : X.K = K := by rfl) (hb : attributeBase e f X.env (eval e X.env) = eval e X.env := by rfl) : PE X (.Attribute e f pos) (tFld K ta f) := by
  subst hK
  exact pe_fld he hb
structure Txt (K : PySem.W.Frag) (mg : Str → Option Value) : Prop where
  len : mg "len" = none
  abs : mg "abs" = none
  int_ : mg "int" = none
  bool_ : mg "bool" = none
  tuple_ : mg "tuple" = none
  isinstance : mg "isinstance" = none
  divmod : mg "divmod" = none
  max : mg "max" = none
  min : mg "min" = none
  range : mg "range" = none
  all : mg "all" = none
  repr : mg "repr" = none
  str_ : mg "str" = none
  enumerate : mg "enumerate" = none
/-! ### heaps -/
def But (c : Addr) (H H' : Hp) : Prop := ∀ b o, b ≠ c → H b = some o → H' b = some o
theorem But.refl (c : Addr) (H : Hp) : But c H H := fun _ _ _ h => h
theorem But.trans {c : Addr} {H H1 H2 : Hp} (a : But c H H1) (b : But c H1 H2) : But c H H2 := fun x o n h => b x o n (a x o n h)
theorem But.of {c : Addr} {H H' : Hp} (h : Same H H') : But c H H' := fun x o _ e => h x o e
theorem same_upd {H : Hp} {p : Addr} {o : HO} (h : H p = none) : Same H (upd H p o) := fun b x e => by
  rw [upd_ne (ne_of_none e h)]
  exact e
theorem But.upd {c : Addr} {H : Hp} {o : HO} : But c H (upd H c o) := fun b x n e => by
  rw [upd_ne n]
  exact e
theorem But.free {c : Addr} {H H' : Hp} (e : But c H H') {l : Addr} (n : l ≠ c) (h : H' l = none) : H l = none := by
  cases q : H l with
  | none => rfl
  | some o =>
    rw [e l o n q] at h
    cases h
def CupAt (c : Addr) (H : Hp) : Prop := ∃ x y : Int, H c = some (.lst [.int x, .int y]) ∧ 0 ≤ x ∧ x < 2147483629 ∧ 0 ≤ y
theorem CupAt.same {c : Addr} {H H' : Hp} (h : CupAt c H) (s : Same H H') : CupAt c H' := by
  obtain ⟨x, y, a, b⟩ := h
  exact ⟨x, y, s _ _ a, b⟩
theorem CupAt.ne {c b : Addr} {H : Hp} (h : CupAt c H) (n : H b = none) : c ≠ b := by
  obtain ⟨x, y, a, _⟩ := h
  exact ne_of_none a n
/-! ### promises -/
def spCup (K : PySem.W.Frag) : Sp := fun vs H Q _ => ∃ (a : Addr) (ns : List Int) (i : Nat), vs = [.ref a, .int (i : Int)] ∧ SqL K H a (ns.map V.int) ∧ i ≤ 100 ∧ ns.length ≤ 63 ∧
  ∀ H' c, Same H H' → H c = none → CupAt c H' → Q (.ref c) H'
def spSip : Sp := fun vs H Q _ => ∃ (c : Addr) (m : Int), vs = [.ref c, .int m] ∧ CupAt c H ∧ 0 < m ∧ Sm 200 m ∧
  ∀ H' r, But c H H' → CupAt c H' → 0 ≤ r → r < m → Q (.int r) H'
def spPick : Sp := fun vs H Q _ => ∃ (c l : Addr) (xs : List V), vs = [.ref c, .ref l] ∧ CupAt c H ∧ c ≠ l ∧ H l = some (.lst xs) ∧ 0 < xs.length ∧ xs.length ≤ 100 ∧
  ∀ H' v, But c H H' → CupAt c H' → v ∈ xs → Q v H'
def spPair : Sp := fun vs H Q _ => ∃ (t b : Int), vs = [.int t, .int b] ∧ Pos2 (t, b) ∧ Sm 4000 t ∧ Sm 4000 b ∧
  ∀ H' p, Same H H' → H p = none → H' p = some (.tup [.int (low (t, b)).1, .int (low (t, b)).2]) → Q (.ref p) H'
section
variable {P : Program} {w : World} {K : PySem.W.Frag} {mg : Str → Option Value} {base : Heap}
end
end RL

namespace RL
open PySem L2
section
variable {P : Program} {w : World} {K : PySem.W.Frag} {mg : Str → Option Value} {base : Heap}
theorem cutV2 (xs : List V) : cutV xs none (some 2) = xs.take 2 := by
  unfold cutV
  rw [HT.sIx_none, show HT.sIx xs.length xs.length (some 2) = min 2 xs.length from HT.sIx_nat xs.length xs.length 2]
  rw [Nat.sub_zero, List.drop_zero]
  rcases Nat.le_total 2 xs.length with h | h
  · rw [Nat.min_eq_left h]
  · rw [Nat.min_eq_right h, List.take_length, List.take_of_length_le h]
end
end RL

namespace RL
open PySem L2
theorem mx {a b : Nat} {i j : Int} (hi : Sm a i) (hj : Sm b j) (h : a + b ≤ 134217728 := by decide) : CMulX i j := mulx_ok hi hj h
theorem dvw {b : Nat} {i j : Int} (h : 0 < j) (hb : Sm b j) (h0 : 0 < b := by decide) (h9 : b ≤ 9000 := by decide) : CDivW i j := wide_div h hb h0 h9
structure Txt2 (K : PySem.W.Frag) (mg : Str → Option Value) (tG : Tok) (aO : Addr) : Prop extends Txt K mg where
  mgG : mg "GREATEST" = some (.int 1000000000000 tG)
  mgO : mg "OPEN" = some (.ref aO)
  opn : ∃ (o : Obj) (its : Array Value) (n : Nat), K.lookup aO = some o ∧ o.cls = .type "tuple" ∧ o.data = .seq its n ∧ its.size ≤ sizeLine ∧ Vals [.int 1, .int 0] its.toList
/-- a resistance's two integers -/
def ResP (t b : Int) : Prop := (0 ≤ t ∧ t ≤ 1000000000000 ∧ 1 ≤ b ∧ b ≤ 1000000000000) ∨ (t = 1 ∧ b = 0)
def spIsInt : Sp := fun vs H Q _ => (∃ i, vs = [.int i] ∧ Q (.bl true) H) ∨ (∃ p xs, vs = [.ref p] ∧ H p = some (.tup xs) ∧ Q (.bl false) H)
def spWithin : Sp := fun vs H Q _ => ∃ v lo hi : Int, vs = [.int v, .int lo, .int hi] ∧ lo ≤ v ∧ v ≤ hi ∧ Q (.bl true) H
def spIsPair : Sp := fun vs H Q _ => ∃ (p : Addr) (t b : Int), vs = [.ref p] ∧ H p = some (.tup [.int t, .int b]) ∧ Q (.bl true) H
def spIsRes : Sp := fun vs H Q _ => (∃ i : Int, vs = [.int i] ∧ 0 ≤ i ∧ i ≤ 1000000000000 ∧ Q (.bl true) H) ∨ (∃ (p : Addr) (t b : Int), vs = [.ref p] ∧ H p = some (.tup [.int t, .int b]) ∧ ResP t b ∧ Q (.bl true) H)
def spPairOf : Sp := fun vs H Q _ => (∃ i, vs = [.int i] ∧ ∀ H' p, Same H H' → H p = none → H' p = some (.tup [.int i, .int 1]) → Q (.ref p) H') ∨ (∃ p xs, vs = [.ref p] ∧ H p = some (.tup xs) ∧ Q (.ref p) H)
def spGcd : Sp := fun vs H Q _ => ∃ x y : Int, vs = [.int x, .int y] ∧ Q (.int (gc x y)) H
def spLow : Sp := fun vs H Q _ => ∃ (t b : Int), vs = [.int t, .int b] ∧ Pos2 (t, b) ∧ Sm 4000 t ∧ Sm 4000 b ∧
  ∀ H' p, Same H H' → H p = none → H' p = some (.tup [.int (low (t, b)).1, .int (low (t, b)).2]) → Q (.ref p) H'
def spLowP : Sp := fun vs H Q _ => ∃ (v : V) (e : Int × Int), vs = [v] ∧ ((∃ i, v = .int i ∧ e = (i, 1)) ∨ (∃ p, v = .ref p ∧ H p = some (.tup [.int e.1, .int e.2]))) ∧ Pos2 e ∧ Sm 4000 e.1 ∧ Sm 4000 e.2 ∧
  ∀ H' p, Same H H' → H p = none → H' p = some (.tup [.int (low e).1, .int (low e).2]) → Q (.ref p) H'
section
variable {P : Program} {w : World} {K : PySem.W.Frag} {mg : Str → Option Value} {base : Heap} {tG : Tok} {aO : Addr}
abbrev s_is_integer : Stmt := top 8
theorem sc_is_integer : FnScope ["value"] ["value"] (defScope s_is_integer) := ⟨rfl, rfl, rfl, by decide +kernel, rfl, by decide +kernel, by decide +kernel⟩

theorem ok_isint {f : Addr} {fd : FuncData} (F : Fun K "is_integer" "is_integer" s_is_integer f fd) (T : Txt K mg) : FnOk P w K mg base CX0 1 f fd ["value"] spIsInt := by
  refine F.ok sc_is_integer (fun vs H Q E h => ?_) (fun cdv A outer s H vs Q E hr h => ?_)
  · rcases h with ⟨i, rfl, _⟩ | ⟨p, xs, rfl, _⟩ <;> rfl
  · refine ⟨_, (pss_one (ps_ret (pe_and (pe_callB call_isi (by rfl) T.isinstance (by decide +kernel) (pa_cons (pv 0) (pa_cons (pe_bltn (v := .ty "int") (by rfl) T.int_ (by decide +kernel) rfl) pa_nil))) (pe_one (pe_not (pe_callB call_isi (by rfl) T.isinstance (by decide +kernel) (pa_cons (pv 0) (pa_cons (pe_bltn (v := .ty "bool") (by rfl) T.bool_ (by decide +kernel) rfl) pa_nil)))))))), ?_⟩
    rcases h with ⟨i, rfl, k⟩ | ⟨p, xs, rfl, hp, k⟩
    · refine ⟨_, rfl, _, _, _, _, true, rfl, .ty _, .base (.int i), kit_ty (by decide +kernel), true, rfl, iteT ?_⟩
      exact ⟨_, rfl, _, _, _, _, false, rfl, .ty _, .base (.int i), kit_ty (by decide +kernel), false, rfl, k⟩
    · refine ⟨_, rfl, _, _, _, _, false, rfl, .ty _, .base (.tup hp), kit_ty (by decide +kernel), false, rfl, iteF ?_⟩
      exact k
abbrev s_is_integer_within : Stmt := top 9
theorem sc_is_integer_within : FnScope ["value", "least", "most"] ["value", "least", "most"] (defScope s_is_integer_within) := ⟨rfl, rfl, rfl, by decide +kernel, rfl, by decide +kernel, by decide +kernel⟩

theorem ok_within {f : Addr} {fd : FuncData} (F : Fun K "is_integer_within" "is_integer_within" s_is_integer_within f fd) (D_is_integer : Df P w K mg base 1 "is_integer" ["value"] spIsInt) : FnOk P w K mg base CX0 2 f fd ["value", "least", "most"] spWithin := by
  refine F.ok sc_is_integer_within (fun vs H Q E h => ?_) (fun cdv A outer s H vs Q E hr h => ?_)
  · obtain ⟨v, lo, hi, rfl, _⟩ := h
    rfl
  · obtain ⟨v, lo, hi, rfl, h1, h2, k⟩ := h
    refine ⟨_, (pss_one (ps_ret (pe_and (pe_df D_is_integer (hr.mono (by decide)) (by rfl) (pa_cons (pv 0) pa_nil)) (pe_one (pe_chain op_le op_le (pv 1) (pv 0) (pv 2)))))), ?_⟩
    refine ⟨_, rfl, .inl ⟨v, rfl, true, rfl, iteT ?_⟩⟩
    refine ⟨_, rfl, _, rfl, _, _, rfl, rfl, _, rfl, ite2 (fun _ => ?_) (fun e => absurd (decide_eq_true h1) e)⟩
    refine ⟨_, rfl, _, _, rfl, rfl, ?_⟩
    show Q (.bl (decide (v ≤ hi))) H
    rw [decide_eq_true h2]
    exact k
abbrev s_is_pair_of_integers : Stmt := top 11
theorem sc_is_pair_of_integers : FnScope ["value"] ["value"] (defScope s_is_pair_of_integers) := ⟨rfl, rfl, rfl, by decide +kernel, rfl, by decide +kernel, by decide +kernel⟩

theorem ok_ispair {f : Addr} {fd : FuncData} (F : Fun K "is_pair_of_integers" "is_pair_of_integers" s_is_pair_of_integers f fd) (T : Txt K mg) (D_is_integer : Df P w K mg base 1 "is_integer" ["value"] spIsInt) : FnOk P w K mg base CX0 2 f fd ["value"] spIsPair := by
  refine F.ok sc_is_pair_of_integers (fun vs H Q E h => ?_) (fun cdv A outer s H vs Q E hr h => ?_)
  · obtain ⟨p, t, b, rfl, _⟩ := h
    rfl
  · obtain ⟨p, t, b, rfl, hp, k⟩ := h
    refine ⟨_, (pss_one (ps_ret (pe_and (pe_callB call_isi (by rfl) T.isinstance (by decide +kernel) (pa_cons (pv 0) (pa_cons (pe_bltn (v := .ty "tuple") (by rfl) T.tuple_ (by decide +kernel) rfl) pa_nil))) (pe_and (pe_cmpR op_eq (pe_callB call_len_seq (by rfl) T.len (by decide +kernel) (pa_cons (pv 0) pa_nil)) pe_int (nomark _)) (pe_and (pe_df D_is_integer (hr.mono (by decide)) (by rfl) (pa_cons (pe_ix ix_tup (pv 0) pe_int (fun _ _ => rfl)) pa_nil)) (pe_one (pe_df D_is_integer (hr.mono (by decide)) (by rfl) (pa_cons (pe_ix ix_tup (pv 0) pe_int (fun _ _ => rfl)) pa_nil)))))))), ?_⟩
    refine ⟨_, rfl, _, _, _, _, true, rfl, .ty _, .base (.tup hp), kit_ty (by decide +kernel), true, rfl, iteT ?_⟩
    refine ⟨_, rfl, p, _, rfl, .inr (SqT.of hp), rfl, true, rfl, iteT ?_⟩
    refine ⟨_, rfl, p, _, _, _, rfl, rfl, SqT.of hp, atI_nat (j := 0) rfl, .inl ⟨t, rfl, true, rfl, iteT ?_⟩⟩
    exact ⟨_, rfl, p, _, _, _, rfl, rfl, SqT.of hp, atI_nat (j := 1) rfl, .inl ⟨b, rfl, k⟩⟩
abbrev s_is_resistance : Stmt := top 12
theorem sc_is_resistance : FnScope ["value", "top", "bottom"] ["value"] (defScope s_is_resistance) := ⟨rfl, rfl, rfl, by decide +kernel, rfl, by decide +kernel, by decide +kernel⟩

theorem ok_isres {f : Addr} {fd : FuncData} (F : Fun K "is_resistance" "is_resistance" s_is_resistance f fd) (T : Txt2 K mg tG aO) (D_is_integer : Df P w K mg base 1 "is_integer" ["value"] spIsInt) (D_is_pair_of_integers : Df P w K mg base 2 "is_pair_of_integers" ["value"] spIsPair) : FnOk P w K mg base CX0 3 f fd ["value"] spIsRes := by
  refine F.ok sc_is_resistance (fun vs H Q E h => ?_) (fun cdv A outer s H vs Q E hr h => ?_)
  · rcases h with ⟨i, rfl, _⟩ | ⟨p, t, b, rfl, _⟩ <;> rfl
  · refine ⟨_, (pss_cons (ps_if (pt_val (pe_df D_is_integer (hr.mono (by decide)) (by rfl) (pa_cons (pv 0) pa_nil))) (pss_one (ps_ret (pe_chain op_le op_le pe_int (pv 0) (pe_glob (v := .int 1000000000000) rfl T.mgG ⟨_, rfl⟩)))) pss_nil)
      (pss_cons (ps_if (pt_not (pt_val (pe_df D_is_pair_of_integers (hr.mono (by decide)) (by rfl) (pa_cons (pv 0) pa_nil)))) (pss_one (ps_ret pe_bl)) pss_nil)
      (pss_cons (ps_asg (pv 0) (pg_tup rfl (pgs_cons (pg_name (i := 1) sc_is_resistance.nd rfl (.inl rfl)) (pgs_cons (pg_name (i := 2) sc_is_resistance.nd rfl (.inl rfl)) pgs_nil))))
      (pss_one (ps_ret (pe_or (pe_cmpR (op_eqD hr.units) (pv 0) (pe_glob (v := .ref aO) rfl T.mgO rfl) (nomark _)) (pe_one (pe_and (pe_chain op_le op_le pe_int (pv 1) (pe_glob (v := .int 1000000000000) rfl T.mgG ⟨_, rfl⟩)) (pe_one (pe_chain op_le op_le pe_int (pv 2) (pe_glob (v := .int 1000000000000) rfl T.mgG ⟨_, rfl⟩))))))))))), ?_⟩
    rcases h with ⟨i, rfl, i0, i1, k⟩ | ⟨p, t, b, rfl, hp, hR, k⟩
    · refine ⟨_, rfl, .inl ⟨i, rfl, true, rfl, iteT ?_⟩⟩
      refine ⟨_, rfl, _, _, rfl, rfl, _, rfl, ite2 (fun _ => ?_) (fun e => absurd (decide_eq_true i0) e)⟩
      refine ⟨_, _, rfl, rfl, ?_⟩
      show Q (.bl (decide (i ≤ 1000000000000))) H
      rw [decide_eq_true i1]
      exact k
    · refine ⟨_, rfl, .inr ⟨p, _, rfl, hp, false, rfl, iteF ?_⟩⟩
      refine ⟨_, rfl, p, t, b, rfl, hp, true, rfl, iteF ?_⟩
      refine ⟨_, rfl, p, _, rfl, SqT.of hp, rfl, _, _, rfl, _, _, rfl, rfl, ?_⟩
      refine ⟨_, rfl, .tuple [.int t, .int b], .tuple [.int 1, .int 0], .tup (SqT.of hp) (.cons (.int _) (.cons (.int _) .nil)), .tup (.inr T.opn) (.cons (.int _) (.cons (.int _) .nil)), rfl, rfl, _, rfl, ite2 (fun _ => k) (fun e => ?_)⟩
      rcases hR with ⟨t0, t1, b0, b1⟩ | ⟨rfl, rfl⟩
      · refine ⟨_, rfl, _, _, rfl, rfl, _, rfl, ite2 (fun _ => ?_) (fun e => absurd (decide_eq_true t0) e)⟩
        refine ⟨_, _, rfl, rfl, _, rfl, ite2 (fun _ => ?_) (fun e => absurd (decide_eq_true t1) e)⟩
        refine ⟨_, rfl, _, _, rfl, rfl, _, rfl, ite2 (fun _ => ?_) (fun e => absurd (decide_eq_true b0) e)⟩
        refine ⟨_, _, rfl, rfl, ?_⟩
        show Q (.bl (decide (b ≤ 1000000000000))) H
        rw [decide_eq_true b1]
        exact k
      · exact absurd (SeqAt.eqv_refl _ (by decide +kernel)) e
abbrev s_pair_of : Stmt := top 13
theorem sc_pair_of : FnScope ["fraction_or_open"] ["fraction_or_open"] (defScope s_pair_of) := ⟨rfl, rfl, rfl, by decide +kernel, rfl, by decide +kernel, by decide +kernel⟩

theorem ok_pairof {f : Addr} {fd : FuncData} (F : Fun K "pair_of" "pair_of" s_pair_of f fd) (D_is_integer : Df P w K mg base 1 "is_integer" ["value"] spIsInt) : FnOk P w K mg base CX0 2 f fd ["fraction_or_open"] spPairOf := by
  refine F.ok sc_pair_of (fun vs H Q E h => ?_) (fun cdv A outer s H vs Q E hr h => ?_)
  · rcases h with ⟨i, rfl, _⟩ | ⟨p, xs, rfl, _⟩ <;> rfl
  · refine ⟨_, (pss_cons (ps_if (pt_val (pe_df D_is_integer (hr.mono (by decide)) (by rfl) (pa_cons (pv 0) pa_nil))) (pss_one (ps_ret (pe_tup (pa_cons (pv 0) (pa_cons pe_int pa_nil))))) pss_nil)
      (pss_one (ps_ret (pv 0)))), ?_⟩
    rcases h with ⟨i, rfl, k⟩ | ⟨p, xs, rfl, hp, k⟩
    · refine ⟨_, rfl, .inl ⟨i, rfl, true, rfl, iteT ?_⟩⟩
      exact ⟨_, rfl, (by show 2 ≤ sizeLine; decide), fun q hq => k _ q (same_upd hq) hq upd_same⟩
    · refine ⟨_, rfl, .inr ⟨p, _, rfl, hp, false, rfl, iteF ?_⟩⟩
      exact ⟨_, rfl, k⟩
abbrev s_common_divisor : Stmt := top 14
theorem sc_common_divisor : FnScope ["first", "second", "high", "low"] ["first", "second"] (defScope s_common_divisor) := ⟨rfl, rfl, rfl, by decide +kernel, rfl, by decide +kernel, by decide +kernel⟩

theorem ok_gcd {f : Addr} {fd : FuncData} (F : Fun K "common_divisor" "common_divisor" s_common_divisor f fd) (T : Txt K mg) : FnOk P w K mg base CX0 1 f fd ["first", "second"] spGcd := by
  refine F.ok sc_common_divisor (fun vs H Q E h => ?_) (fun cdv A outer s H vs Q E hr h => ?_)
  · obtain ⟨t, b, rfl, _⟩ := h
    rfl
  · obtain ⟨t, b, rfl, k⟩ := h
    refine ⟨_, (pss_cons (ps_par (by rfl) sc_common_divisor.nd (i := 2) (j := 3) rfl rfl (by decide) rfl rfl (pa_cons (pe_callB call_abs (by rfl) T.abs (by decide +kernel) (pa_cons (pv 0) pa_nil)) (pa_cons (pe_callB call_abs (by rfl) T.abs (by decide +kernel) (pa_cons (pv 1) pa_nil)) pa_nil)) (by rfl))
      (pss_cons (ps_while PassesOwn.never (pt_cmpR op_gt (pv 3) pe_int (nomark _)) (pss_one (ps_par (by rfl) sc_common_divisor.nd (i := 2) (j := 3) rfl rfl (by decide) rfl rfl (pa_cons (pv 3) (pa_cons (pe_op op_mod (pv 2) (pv 3)) pa_nil)) (by rfl))))
      (pss_one (ps_ret (pv 2))))), ?_⟩
    refine ⟨_, rfl, _, rfl, _, rfl, _, rfl, _, _, rfl, ?_⟩
    refine while_by (fun σ H' => H' = H ∧ ∃ x y : Int, σ = [some (.int t), some (.int b), some (.int x), some (.int y)] ∧ 0 ≤ x ∧ 0 ≤ y ∧ gc x y = gc t b) (fun σ _ => match σ with | [_, _, _, some (.int y)] => y.toNat | _ => 0) ⟨rfl, _, _, rfl, by split <;> omega, by split <;> omega, gc_abs _ _⟩ ?_ ?_
    · rintro σ H' ⟨rfl, x, y, rfl, x0, y0, eg⟩
      refine ⟨_, rfl, _, _, rfl, rfl, _, rfl, ite2 (fun e => ?_) (fun e => ?_)⟩
      · have e0 : 0 < y := of_decide_eq_true e
        refine ⟨_, rfl, _, rfl, _, rfl, _, _, rfl, rfl, e0, _, _, rfl, ?_⟩
        have q1 := Int.emod_nonneg x (show y ≠ 0 by omega)
        have q2 := Int.emod_lt_of_pos x e0
        refine ⟨⟨rfl, y, x % y, rfl, y0, q1, ?_⟩, ?_⟩
        · rw [gc_step x0 e0, eg]
        · show (x % y).toNat < y.toNat
          omega
      · have e0 : ¬ 0 < y := fun z => e (decide_eq_true z)
        have y1 : y = 0 := by omega
        subst y1
        rw [gc_zero x0] at eg
        subst eg
        exact ⟨_, rfl, k⟩
    · rintro σ H' Q1 Q2 hq h
      obtain ⟨v, e1, i, j, e2, e3, z⟩ := h
      exact ⟨v, e1, i, j, e2, e3, z.imp fun k z => ⟨z.1, hq _ _ z.2⟩⟩
abbrev s_lowest_terms : Stmt := top 15
theorem sc_lowest_terms : FnScope ["top", "bottom", "divisor"] ["top", "bottom"] (defScope s_lowest_terms) := ⟨rfl, rfl, rfl, by decide +kernel, rfl, by decide +kernel, by decide +kernel⟩

theorem ok_low {f : Addr} {fd : FuncData} (F : Fun K "lowest_terms" "lowest_terms" s_lowest_terms f fd) (D_common_divisor : Df P w K mg base 1 "common_divisor" ["first", "second"] spGcd) : FnOk P w K mg base CX0 2 f fd ["top", "bottom"] spLow := by
  refine F.ok sc_lowest_terms (fun vs H Q E h => ?_) (fun cdv A outer s H vs Q E hr h => ?_)
  · obtain ⟨t, b, rfl, _⟩ := h
    rfl
  · obtain ⟨t, b, rfl, tb, ts, bs, k⟩ := h
    refine ⟨_, (pss_cons (ps_set (i := 2) sc_lowest_terms.nd rfl (.inl rfl) (pe_df D_common_divisor (hr.mono (by decide)) (by rfl) (pa_cons (pv 0) (pa_cons (pv 1) pa_nil))))
      (pss_one (ps_ret (pe_tup (pa_cons (pe_op op_fdivW (pv 0) (pv 2)) (pa_cons (pe_op op_fdivW (pv 1) (pv 2)) pa_nil)))))), ?_⟩
    have g0 : 0 < gc t b := gc_pos2 tb
    have gs : Sm 4000 (gc t b) := gc_sm tb ts bs
    refine ⟨_, rfl, _, rfl, t, b, rfl, ?_⟩
    refine ⟨_, rfl, _, rfl, _, _, rfl, rfl, dvw g0 gs, _, rfl, _, rfl, _, _, rfl, rfl, dvw g0 gs, (by show 2 ≤ sizeLine; decide), fun p hp => ?_⟩
    exact k _ _ (same_upd hp) hp upd_same
end
end RL

set_option maxHeartbeats 1000000
/-! for i, x in enumerate(t), t a tuple. -/
namespace RL
open PySem L2 PySem.Spec PyProof.Rows
open AutoSeq1 (wpAny_loadPart')
theorem meets_enumerate_newT (l : Addr) (items : Array Value) (n : Nat) (dct : Option Addr) (sl : Array (Option Value)) :
    Meets (Builtin.«enumerate.__new__» ⟨[.type "enumerate", .ref l], []⟩) (fun _ R s => s.heap.get? l = some { cls := .type "tuple", dict := dct, data := .seq items n, slots := sl } ∧
      R (.ok (.ret (.ref (s.heap.push { cls := .type "tuple_iterator", data := .fields #[.ref l, .int 0 0] }).objs.size)))
        { s with heap := (s.heap.push { cls := .type "tuple_iterator", data := .fields #[.ref l, .int 0 0] }).push { cls := .type "enumerate", data := .fields #[.none, .bool false, .ref s.heap.objs.size, rawInt 0, .none, .none] } }) :=
  .of_wp fun prog w A R s h => by
    obtain ⟨hp, g, d, tk, os⟩ := s; obtain ⟨hl, h⟩ := h
    have hsub := sub_enumerate
    have hL : Heap.IsTuple (Shared.heap ⟨hp, g, d, tk, os⟩) l items := ⟨_, hl, rfl, n, rfl⟩
    wp_walk using wpAny_loadPart' hl
    refine wpAny_stack_any fun st => wpAny_pure ?_
    split
    · rename_i c _ _ _ _ _
      cases (c == Value.type "enumerate")
      · wp_walk using wpAny_loadPart' hl, wpAny_pyIter_tuple hL
        exact ⟨_, rfl, h⟩
      · wp_walk using wpAny_loadPart' hl, wpAny_pyIter_tuple hL
        exact ⟨_, rfl, h⟩
    · wp_walk using wpAny_loadPart' hl, wpAny_pyIter_tuple hL
      exact ⟨_, rfl, h⟩
section
variable {prog : Program} {w : World} {A : Around} {E : Value → Shared → Prop} {s : Shared}
theorem call_enumerate_tuple {l : Addr} {items : Array Value} {Q : Value → Shared → Prop} (hL : s.heap.IsTuple l items)
    (h : ∀ h', IsEnum h' (s.heap.objs.size + 1) s.heap.objs.size 0 .none → h'.IsTupleIter s.heap.objs.size l 0 → h'.objs.size = s.heap.objs.size + 2 →
      (∀ b o, s.heap.get? b = some o → h'.get? b = some o) → Q (.ref (s.heap.objs.size + 1)) { s with heap := h' }) :
    wpAny (model prog w) A (call (.type "enumerate") [.ref l]) Q E s := by
  obtain ⟨⟨c, dct, dt, sl⟩, hl, hc, n, hd⟩ := hL
  replace hc : c = .type "tuple" := hc
  replace hd : dt = .seq items n := hd
  subst hc hd
  refine callType_new F.called_enumerate (by decide) (F.typeCall_enumerate_1 _) (F.newCall_enumerate_1 _) (fun obj => F.args_object_init_2 obj _) F.entry_enumerate_new
    (meets_enumerate_newT l items n dct sl) ⟨hl, ?_⟩
  have hz : (s.heap.push { cls := .type "tuple_iterator", data := .fields #[.ref l, .int 0 0] }).objs.size = s.heap.objs.size + 1 := Heap.size_push ..
  show _ ∧ _
  rw [hz]
  have he : IsEnum ((s.heap.push { cls := .type "tuple_iterator", data := .fields #[.ref l, .int 0 0] }).push
      { cls := .type "enumerate", data := .fields #[.none, .bool false, .ref s.heap.objs.size, rawInt 0, .none, .none] }) (s.heap.objs.size + 1) s.heap.objs.size 0 .none := by
    have := Heap.get?_push_size (s.heap.push { cls := .type "tuple_iterator", data := .fields #[.ref l, .int 0 0] })
      (o := { cls := .type "enumerate", data := .fields #[.none, .bool false, .ref s.heap.objs.size, rawInt 0, .none, .none] }) rfl
    rw [hz] at this; exact this
  refine ⟨⟨_, he, rfl⟩, h _ he ⟨_, Heap.get?_push_of_some _ (Heap.get?_push_size _ rfl), rfl, rfl⟩ (by rw [Heap.size_push, hz]) fun b o x => Heap.get?_push_of_some _ (Heap.get?_push_of_some _ x)⟩
end
/-- the tuple at a as it stands at each turn, each item in a new pair -/
def IteT (K : PySem.W.Frag) (a : Addr) : It :=
  ⟨fun i H => ∃ (xs : List V) (x : V), SqT K H a xs ∧ xs[i]? = some x, fun i H v H' => ∃ T x, v = .ref T ∧ H T = none ∧ H' = upd H T (.tup [.int (i : Nat), x]) ∧ ∀ xs, SqT K H a xs → xs[i]? = some x, fun i H => ∃ xs : List V, SqT K H a xs ∧ xs.length = i⟩
theorem turn_enumT {P : Program} {w : World} {K : PySem.W.Frag} {elts : List Expr} {kk : Nat} {tpos : Pos} (a e it : Addr) :
    Turn P w K (.Tuple elts kk tpos) (IteT K a) [e, it] e (fun i h => (∃ old, IsEnum h e it ((i : Nat) : Int) old) ∧ h.IsTupleIter it a i ∧ e ≠ it ∧ a ≠ it ∧ a ≠ e) where
  mem := by simp
  obj := fun i h st b hb => by
    obtain ⟨⟨old, he⟩, ⟨o, ho, hc, hd⟩, _⟩ := st
    have e' : b = e ∨ b = it := by simpa using hb
    rcases e' with z | z
    · rw [z]; exact ⟨_, he, fun v q => nomatch q⟩
    · rw [z]; exact ⟨o, ho, fun v q => by rw [hd] at q; cases q⟩
  keep := fun i h h' st k => let ⟨⟨old, he⟩, hi, hne⟩ := st; ⟨⟨old, k e (by simp) _ he⟩, hi.at fun o q => k it (by simp) o q, hne⟩
  item := by
    intro X hP hw hK hc i pins s σ H E I hf st hg
    subst hP hw hK
    obtain ⟨⟨old, he⟩, hit, hne, hai, hae⟩ := st
    obtain ⟨xs, x, hq, hx⟩ := hg
    obtain ⟨its, rv, p, hz⟩ := I.tuple hq
    obtain ⟨u, hu, ru⟩ := rv.get hx
    have hel : e < s.heap.objs.size := Heap.lt_size he
    have hil : it < s.heap.objs.size := by obtain ⟨_, q, _⟩ := hit; exact Heap.lt_size q
    have hi : i < its.toArray.size := by
      have := (List.getElem?_eq_some_iff.mp hu).1
      simpa using this
    refine wpAny_pyNext_enum_itemD (Draws.tuple (A := X.A.in1) (I.ok.hd hc) it a hai its.toArray) he ⟨hit, p⟩ hi hne (by simp [hne, Ne.symm hae]) fun x' h' tk hPx ho st' hT hsz hk => ?_
    have ex : x' = u := by
      have h1 : its.toArray[i]? = some u := by simpa using hu
      rw [h1] at hPx
      exact (Option.some.inj hPx).symm
    subst ex
    refine ⟨_, rfl, wpAny_letOwnedTupleGo_enum (s := { s with heap := h', toks := tk + 1 }) ho fun h'' he' sb => ?_⟩
    have hT2 : h''.get? s.heap.objs.size = some { cls := .type "tuple", data := .seq #[.int i tk, x'] } := (sb.2 _ (Nat.ne_of_gt hel)).trans hT
    have new : ObjOk X.prog X.w (upd H s.heap.objs.size (.tup [.int (i : Nat), x])) h'' s.heap.objs.size (.tup [.int (i : Nat), x]) :=
      ⟨by show 2 ≤ sizeLine; decide, [.int i tk, x'], .cons ⟨_, rfl⟩ (.cons ru .nil), ⟨_, hT2, rfl, _, rfl⟩⟩
    have I1 : Inv X pins σ (upd H s.heap.objs.size (.tup [.int (i : Nat), x])) { s with heap := h'', toks := tk + 1 } :=
      I.turnedNew (ch := [e, it]) (fun b ob hb q => (sb.2 b (fun z => hb (by simp [z]))).trans (hk b ob (fun z => hb (by simp [z])) (fun z => hb (by simp [z])) q)) hf (Nat.le_refl _) new
    refine ⟨.ref s.heap.objs.size, _, I1, rfl, ⟨_, x, rfl, I.hok.fresh (Nat.le_refl _), rfl, fun ys hy => by rw [I.tuple_inj hy hq]; exact hx⟩, ⟨⟨x', ?_⟩, st'.1.at fun o q => (sb.2 it (Ne.symm hne)).trans q, hne, hai, hae⟩, fun b hb => ?_⟩
    · have e1 : ((i + 1 : Nat) : Int) = (i : Int) + 1 := by omega
      rw [e1]; exact he'
    · have hb' : b < s.heap.objs.size := by
        have e' : b = e ∨ b = it := by simpa using hb
        rcases e' with z | z
        · rw [z]; exact hel
        · rw [z]; exact hil
      rw [upd_ne (Nat.ne_of_lt hb')]
      exact (hf b hb).1
  done := by
    intro X hP hw hK hc i pins s σ H E I hf st hg
    subst hP hw hK
    obtain ⟨⟨old, he⟩, hit, hne, hai, hae⟩ := st
    obtain ⟨xs, hq, hx⟩ := hg
    obtain ⟨its, rv, p, hz⟩ := I.tuple hq
    obtain ⟨f0, f1, f2, f3, f4, f5⟩ := hf it (by simp)
    have hl := rv.length
    have en : its.toArray.size = i := by simp; omega
    have hit' : s.heap.IsTupleIter it a its.toArray.size := by rw [en]; exact hit
    exact wpAny_pyNext_enum_endD (Draws.tuple (A := X.A.in1) (I.ok.hd hc) it a hai its.toArray) he ⟨hit', p⟩ fun h' eb => ⟨rfl, I.turned (t' := s.toks) (fun b o hb q => eb b o hb q) f0 f1 f3 f4 f5⟩
  self := fun A i s Q E st h => let ⟨⟨_, he⟩, _⟩ := st; wpAny_pyIter_enum he h
def iEnumT (K : PySem.W.Frag) (ta : TA) : TI := fun σ H R => ta σ H fun vs H1 => ∃ a xs, vs = [.ref a] ∧ SqT K H1 a xs ∧ R (IteT K a) H1
theorem pi_enumT {X : Cx} {e : Expr} {ta : TA} {p pos tpos : Pos} {elts : List Expr} {kk : Nat} (hg : Gl X "enumerate") (hm : X.mg "enumerate" = none) (ha : PA X [e] ta) (hs : starEach [e] X.env = [(false, eval e X.env)] := by rfl) :
    PI X (.Tuple elts kk tpos) (.Call (.Name "enumerate" p) [e] [] pos) (iEnumT X.K ta) := by
  refine ⟨fun pins s σ H R I h => ?_⟩
  refine Call_ (ld_blt I hg hm boot_enumerate (PyProof.Rows.callWith_type1 (thn (ha.run pos pins s σ H _ I h) fun us s1 ⟨vs, H1, I1, r1, q1⟩ => ?_) hs rfl))
  obtain ⟨a, xs, ex, hq, q⟩ := q1
  subst ex
  cases r1 with
  | cons r rr =>
    cases rr
    cases r
    obtain ⟨its, rv, p', hz⟩ := I1.tuple hq
    have hal : a < s1.heap.objs.size := by obtain ⟨o, ho, _⟩ := id p'; exact Heap.lt_size ho
    refine call_enumerate_tuple p' fun h' he hit hsz hk => wpAny_pyIter_enum he ?_
    have I2 : Inv X pins σ H1 { s1 with heap := h' } := I1.kept (t' := s1.toks) hk
    refine ⟨s1.heap.objs.size + 1, [s1.heap.objs.size + 1, s1.heap.objs.size], _, _, H1, rfl, I2, turn_enumT a (s1.heap.objs.size + 1) s1.heap.objs.size, ⟨⟨.none, he⟩, hit, Nat.succ_ne_self _, Nat.ne_of_lt hal, Nat.ne_of_lt (Nat.lt_succ_of_lt hal)⟩, fun b hb => ?_, q⟩
    have e' : b = s1.heap.objs.size + 1 ∨ b = s1.heap.objs.size := by simpa using hb
    have hle : s1.heap.objs.size ≤ b := by
      rcases e' with z | z
      · rw [z]; exact Nat.le_add_right _ _
      · rw [z]; exact Nat.le_refl _
    exact I1.fpOk hle (I1.hok.fresh hle)
/-- the loop, for a tuple that stands in the heap and whose places are alike by the invariant -/
theorem for_enumT {K : PySem.W.Frag} {a : Addr} {xs : List V} {g : TG} {tb : TS} {D : Ends} {σ : L2.St} {H : Hp} (Pv : Nat → L2.St → Hp → Prop) (h0 : Pv 0 σ H) (hl : ∀ i σ H, i ≤ xs.length → Pv i σ H → SqT K H a xs)
    (hs : ∀ i x σ H T, xs[i]? = some x → Pv i σ H → H T = none → g (.ref T) σ (upd H T (.tup [.int (i : Nat), x])) fun σ2 H2 => tb { D with nx := Pv (i + 1), ct := Pv (i + 1), bk := D.nx } σ2 H2) (hd : ∀ σ H, Pv xs.length σ H → D.nx σ H) :
    ∃ W : Nat → Nat → L2.St → Hp → Prop, (∃ m, W 0 m σ H) ∧ ∀ i m σ H, W i m σ H →
      ((IteT K a).stop i H ∧ D.nx σ H) ∨ ((IteT K a).go i H ∧ ∃ N : L2.St → Hp → Prop, (∀ σ' H', N σ' H' → ∃ m', m' < m ∧ W (i + 1) m' σ' H') ∧ ∀ x H', (IteT K a).yld i H x H' → g x σ H' fun σ2 H2 => tb { D with nx := N, ct := N, bk := D.nx } σ2 H2) := by
  refine ⟨fun i m σ H => m = xs.length - i ∧ i ≤ xs.length ∧ Pv i σ H, ⟨xs.length, by simp, Nat.zero_le _, h0⟩, ?_⟩
  rintro i m σ H ⟨rfl, hi, p⟩
  have q := hl i σ H hi p
  by_cases hlt : i < xs.length
  · refine .inr ⟨⟨xs, xs[i], q, by simp [hlt]⟩, Pv (i + 1), fun σ' H' p' => ⟨xs.length - (i + 1), by omega, rfl, hlt, p'⟩, fun x H' y => ?_⟩
    obtain ⟨T, x', rfl, nT, rfl, hx⟩ := y
    exact hs i x' σ H T (hx xs q) p nT
  · have : i = xs.length := by omega
    subst this
    exact .inl ⟨⟨xs, q, rfl⟩, hd σ H p⟩
/-- a def by position, as a promise of its arguments alone -/
theorem fnR_mk {P : Program} {w : World} {K : PySem.W.Frag} {mg : Str → Option Value} {base : Heap} {k : Nat} {g : Addr} {fd : FuncData} {ps : List Str} {sp : Sp} (F : FnOk P w K mg base CX0 k g fd ps sp) (hb : Binds K fd ps []) : FnR P w K mg base CX0 k g sp := by
  intro A outer s H us vs Q E hr e0 r h
  have hl : (us ++ []).length = ps.length := by
    rw [List.append_nil, ← r.length]
    exact F.len _ _ _ _ h
  have KX : K.In s.heap := e0.mod.kin.keeps fun b o e => (e0.bs b o e).1
  have hbb := hb s us KX hl
  rw [List.append_nil] at hbb
  exact F.run A outer s H ⟨us, []⟩ us vs Q E hr e0 hbb r h
end RL

namespace RL
open PySem L2
/-! ### the texts of pieces -/
def wd (r : Bool) : Str := if r = true then Str.ofString "rail" else Str.ofString "rung"
def ptx (p : Pc) : Str := wd p.1 ++ Str.ofString " " ++ ts p.2
theorem ptx_dec : ∀ r r' : Bool, ∀ i j : Fin 12, ptx (r, (i.val : Int) + 1) = ptx (r', (j.val : Int) + 1) → r = r' ∧ i = j := by decide +kernel
theorem ptx_free_dec : ∀ r : Bool, ∀ i : Fin 12, 44 ∉ TL.tl (ptx (r, (i.val : Int) + 1)) ∧ (ptx (r, (i.val : Int) + 1)).length ≤ 7 := by decide +kernel
theorem pc_fin {p : Pc} (h : PcOk p) : ∃ i : Fin 12, p = (p.1, (i.val : Int) + 1) := by
  obtain ⟨h1, h2⟩ := h
  refine ⟨⟨(p.2 - 1).toNat, by omega⟩, ?_⟩
  ext
  · rfl
  · dsimp
    omega
theorem ptx_inj {p q : Pc} (hp : PcOk p) (hq : PcOk q) (h : ptx p = ptx q) : p = q := by
  obtain ⟨i, ei⟩ := pc_fin hp
  obtain ⟨j, ej⟩ := pc_fin hq
  rw [ei, ej] at h
  obtain ⟨a, b⟩ := ptx_dec _ _ _ _ h
  rw [ei, ej, a, b]
theorem ptx_free {p : Pc} (hp : PcOk p) : 44 ∉ TL.tl (ptx p) := by
  obtain ⟨i, ei⟩ := pc_fin hp
  rw [ei]
  exact (ptx_free_dec _ _).1
theorem ptx_len {p : Pc} (hp : PcOk p) : (ptx p).length ≤ 7 := by
  obtain ⟨i, ei⟩ := pc_fin hp
  rw [ei]
  exact (ptx_free_dec _ _).2
theorem wd_inj {r r' : Bool} (h : wd r = wd r') : r = r' := by
  revert r r'
  decide +kernel
theorem both {R G : Prop} (f : R → G) (r : R) : G := f r
theorem ne_selfV (v : V) : ¬ (!decide (v = v)) = true := by
  rw [decide_eq_true rfl]
  decide
/-! ### rows in the heap -/
def PieceAt (H : Hp) (v : V) (p : Pc) : Prop := ∃ t, v = .ref t ∧ H t = some (.tup [.str (wd p.1), .int p.2])
def PiecesAt (H : Hp) (vs : List V) (r : List Pc) : Prop := vs.length = r.length ∧ ∀ (i : Nat) (p : Pc), r[i]? = some p → ∃ v, vs[i]? = some v ∧ PieceAt H v p
theorem PieceAt.same {H H' : Hp} {v : V} {p : Pc} (h : PieceAt H v p) (s : Same H H') : PieceAt H' v p := by
  obtain ⟨t, e, ht⟩ := h
  exact ⟨t, e, s _ _ ht⟩
theorem PiecesAt.same {H H' : Hp} {vs : List V} {r : List Pc} (h : PiecesAt H vs r) (s : Same H H') : PiecesAt H' vs r :=
  ⟨h.1, fun i p hp => let ⟨v, hv, q⟩ := h.2 i p hp; ⟨v, hv, q.same s⟩⟩
theorem PieceAt.but {H H' : Hp} {x : Addr} {v : V} {p : Pc} (h : PieceAt H v p) (s : But x H H') (hx : ∀ xs, H x ≠ some (.tup xs)) : PieceAt H' v p := by
  obtain ⟨t, e, ht⟩ := h
  refine ⟨t, e, s _ _ ?_ ht⟩
  rintro rfl
  exact hx _ ht
theorem PiecesAt.but {H H' : Hp} {x : Addr} {vs : List V} {r : List Pc} (h : PiecesAt H vs r) (s : But x H H') (hx : ∀ xs, H x ≠ some (.tup xs)) : PiecesAt H' vs r :=
  ⟨h.1, fun i p hp => let ⟨v, hv, q⟩ := h.2 i p hp; ⟨v, hv, q.but s hx⟩⟩
theorem PiecesAt.at_ {H : Hp} {vs : List V} {r : List Pc} (h : PiecesAt H vs r) {i : Nat} {v : V} (hv : vs[i]? = some v) : ∃ p, r[i]? = some p ∧ PieceAt H v p := by
  have hi : i < r.length := by
    rw [← h.1]
    exact (List.getElem?_eq_some_iff.mp hv).1
  obtain ⟨w, hw, q⟩ := h.2 i r[i] (List.getElem?_eq_getElem hi)
  rw [hv] at hw
  cases hw
  exact ⟨_, List.getElem?_eq_getElem hi, q⟩
theorem RowOk.at_ {r : List Pc} (h : RowOk r) {i : Nat} {p : Pc} (hp : r[i]? = some p) : PcOk p := h p (List.mem_of_getElem? hp)
structure Txt3 (K : PySem.W.Frag) (mg : Str → Option Value) (tG t1 t2 t3 : Tok) (aO aW J C : Addr) : Prop extends Txt2 K mg tG aO where
  mgOh : mg "MOST_OHMS" = some (.int 12 t1)
  mgPi : mg "MOST_PIECES" = some (.int 4 t2)
  mgJo : mg "MOST_JOINED" = some (.int 8 t3)
  mgW : mg "WORDS" = some (.ref aW)
  wds : ∃ (o : Obj) (its : Array Value) (n : Nat), K.lookup aW = some o ∧ o.cls = .type "tuple" ∧ o.data = .seq its n ∧ its.size ≤ sizeLine ∧ Vals [.str (Str.ofString "rail"), .str (Str.ofString "rung")] its.toList
  mgJ : mg "JoinedRow" = some (.ref J)
  mgC : mg "Pattern" = some (.ref C)
  clJ : Cls K J
  nJ : NoAttr K J "row"
  caJ : PySem.W.findIn K (.ref J) "__class__" = some (some (.builtin "object.__class__"))
  cnJ : PySem.W.specialIn K (.builtin "object.__class__") "__get__" = some (some (.builtin "getset_descriptor.__get__"))
  ctJ : PySem.W.takesIn K (.builtin "object.__class__") = some true
  cmJ : PySem.W.mroIn K J (.type "object") = some true
  isJ : PySem.W.kitOne K (.ref J) (.ref J) = some true
  ktJ : PySem.W.kitOne K (.type "tuple") (.ref J) = some false
  cl : Cls K C
  nRow : NoAttr K C "row"
  nMat : NoAttr K C "matrix"
  nScl : NoAttr K C "scale"
  nFour : NoAttr K C "four"
/-! ### promises -/
def spJ (J : Addr) : Sp := fun vs H Q _ => ∃ (x dx : Addr) (v : V), vs = [.ref x, v] ∧ H x = some (.ins J dx []) ∧ Q .non (upd H x (.ins J dx [("row", v)]))
def spIsPiece : Sp := fun vs H Q _ => ∃ (v : V) (p : Pc), vs = [v] ∧ PieceAt H v p ∧ PcOk p ∧ Q (.bl true) H
def spChk (J : Addr) : Sp := fun vs H Q _ => ∃ p : Addr, vs = [.ref p] ∧ ((∃ j dj q, H p = some (.tup [.ref j]) ∧ H j = some (.ins J dj [("row", .ref q)]) ∧ Q (.ref q) H) ∨
  (∃ ws r, H p = some (.tup ws) ∧ PiecesAt H ws r ∧ RowOk r ∧ 1 ≤ r.length ∧ r.length ≤ 4 ∧ ∀ H', Same H H' → Q (.ref p) H'))
def MatT (m : Mx) : List V := [.int m.a, .int m.b, .int m.c, .int m.d]
def spMat : Sp := fun vs H Q _ => ∃ (q : Addr) (ws : List V) (r : List Pc), vs = [.ref q] ∧ H q = some (.tup ws) ∧ PiecesAt H ws r ∧ RowOk r ∧ r.length ≤ 8 ∧
  ∀ H' p m, Same H H' → H' p = some (.tup [.ref m, .int (sclR r)]) → H' m = some (.tup (MatT (matR r))) → H p = none → H m = none → Q (.ref p) H'
def spShown : Sp := fun vs H Q _ => ∃ (a b : Addr) (m : Mx) (e : Int × Int), vs = [.ref a, .ref b] ∧ H a = some (.tup (MatT m)) ∧ H b = some (.tup [.int e.1, .int e.2]) ∧ MxSm 3000 m ∧ Sm 4000 e.1 ∧ Sm 4000 e.2 ∧
  ∀ H' p, Same H H' → H p = none → H' p = some (.tup [.int (m.app e).1, .int (m.app e).2]) → Q (.ref p) H'
def spPtx : Sp := fun vs H Q _ => ∃ p : Pc, vs = [.str (wd p.1), .int p.2] ∧ PcOk p ∧ Q (.str (ptx p)) H
def spPwt : Sp := fun vs H Q _ => ∃ p : Pc, vs = [.str (ptx p)] ∧ PcOk p ∧ ∀ H' t, Same H H' → H t = none → H' t = some (.tup [.str (wd p.1), .int p.2]) → Q (.ref t) H'
section
variable {P : Program} {w : World} {K : PySem.W.Frag} {mg : Str → Option Value} {base : Heap} {tG t1 t2 t3 : Tok} {aO aW J C : Addr}
abbrev s_is_piece : Stmt := top 25
theorem sc_is_piece : FnScope ["value", "word", "ohms"] ["value"] (defScope s_is_piece) := ⟨rfl, rfl, rfl, by decide +kernel, rfl, by decide +kernel, by decide +kernel⟩

theorem ok_ispiece {f : Addr} {fd : FuncData} (F : Fun K "is_piece" "is_piece" s_is_piece f fd) (T : Txt3 K mg tG t1 t2 t3 aO aW J C) (D_is_integer_within : Df P w K mg base 2 "is_integer_within" ["value", "least", "most"] spWithin) : FnOk P w K mg base CX0 3 f fd ["value"] spIsPiece := by
  refine F.ok sc_is_piece (fun vs H Q E h => ?_) (fun cdv A outer s H vs Q E hr h => ?_)
  · obtain ⟨v, p, rfl, _⟩ := h
    rfl
  · obtain ⟨v, p, rfl, ⟨t, rfl, ht⟩, ⟨p1, p2⟩, k⟩ := h
    refine ⟨_, (pss_cons (ps_if (PW.pt (pw_or (pt_not (pt_val (pe_callB call_isi (by rfl) T.isinstance (by decide +kernel) (pa_cons (pv 0) (pa_cons (pe_bltn (v := .ty "tuple") (by rfl) T.tuple_ (by decide +kernel) rfl) pa_nil))))) (pw_or1 (pt_cmpR op_ne (pe_callB call_len_seq (by rfl) T.len (by decide +kernel) (pa_cons (pv 0) pa_nil)) pe_int (nomark _))))) (pss_one (ps_ret pe_bl)) pss_nil)
      (pss_cons (ps_asg (pv 0) (pg_tup rfl (pgs_cons (pg_name (i := 1) sc_is_piece.nd rfl (.inl rfl)) (pgs_cons (pg_name (i := 2) sc_is_piece.nd rfl (.inl rfl)) pgs_nil))))
      (pss_one (ps_ret (pe_and (pe_callB call_isi (by rfl) T.isinstance (by decide +kernel) (pa_cons (pv 1) (pa_cons (pe_bltn (v := .ty "str") (by rfl) T.str_ (by decide +kernel) rfl) pa_nil))) (pe_and (pe_cmpR op_in_seq (pv 1) (pe_glob (v := .ref aW) rfl T.mgW rfl) (by rfl)) (pe_one (pe_df D_is_integer_within (hr.mono (by decide)) (by rfl) (pa_cons (pv 2) (pa_cons pe_int (pa_cons (pe_glob (v := .int 12) rfl T.mgOh ⟨_, rfl⟩) pa_nil))))))))))), ?_⟩
    refine ⟨_, rfl, _, _, _, _, true, rfl, .ty _, .base (.tup ht), kit_ty (by decide +kernel), true, rfl, iteF ?_⟩
    refine ⟨_, rfl, t, _, rfl, .inr (SqT.of ht), rfl, _, rfl, ite2 (fun e => absurd e (ne_selfV (.int 2))) (fun _ => ?_)⟩
    refine ⟨_, rfl, t, _, rfl, SqT.of ht, rfl, _, _, rfl, _, _, rfl, rfl, ?_⟩
    refine ⟨_, rfl, _, _, _, _, true, rfl, .ty _, .base (.str _), kit_ty (by decide +kernel), true, rfl, iteT ?_⟩
    have hin : inV (V.str (wd p.1)) [.str (Str.ofString "rail"), .str (Str.ofString "rung")] = true := by
      cases p.1 <;> decide +kernel
    refine ⟨_, rfl, aW, _, rfl, .inr (.inr T.wds), rfl, rfl, true, congrArg V.bl hin, iteT ?_⟩
    exact ⟨_, rfl, p.2, 1, 12, rfl, p1, p2, k⟩
abbrev s_matrix_and_scale : Stmt := top 26
theorem sc_matrix_and_scale : FnScope ["row", "a", "b", "c", "d", "scale", "word", "ohms"] ["row"] (defScope s_matrix_and_scale) := ⟨rfl, rfl, rfl, by decide +kernel, rfl, by decide +kernel, by decide +kernel⟩

theorem ok_mat {f : Addr} {fd : FuncData} (F : Fun K "matrix_and_scale" "matrix_and_scale" s_matrix_and_scale f fd) : FnOk P w K mg base CX0 1 f fd ["row"] spMat := by
  refine F.ok sc_matrix_and_scale (fun vs H Q E h => ?_) (fun cdv A outer s H vs Q E hr h => ?_)
  · obtain ⟨q, ws, r, rfl, _⟩ := h
    rfl
  · obtain ⟨q, ws, r, rfl, hq, hw, hok, l8, k⟩ := h
    refine ⟨_, (pss_cons (ps_asg (pe_tup (pa_cons pe_int (pa_cons pe_int (pa_cons pe_int (pa_cons pe_int pa_nil))))) (pg_tup rfl (pgs_cons (pg_name (i := 1) sc_matrix_and_scale.nd rfl (.inl rfl)) (pgs_cons (pg_name (i := 2) sc_matrix_and_scale.nd rfl (.inl rfl)) (pgs_cons (pg_name (i := 3) sc_matrix_and_scale.nd rfl (.inl rfl)) (pgs_cons (pg_name (i := 4) sc_matrix_and_scale.nd rfl (.inl rfl)) pgs_nil))))))
      (pss_cons (ps_set (i := 5) sc_matrix_and_scale.nd rfl (.inl rfl) pe_int)
      (pss_cons (ps_for PassesOwn.never rfl (pi_tup (pv 0)) (pg_tup rfl (pgs_cons (pg_name (i := 6) sc_matrix_and_scale.nd rfl (.inl rfl)) (pgs_cons (pg_name (i := 7) sc_matrix_and_scale.nd rfl (.inl rfl)) pgs_nil))) (pss_one (ps_if (pt_cmpR op_eq (pv 6) pe_str (nomark _)) (pss_one (ps_par (by rfl) sc_matrix_and_scale.nd (i := 2) (j := 4) rfl rfl (by decide) rfl rfl (pa_cons (pe_op op_add (pe_op op_mulX (pv 1) (pv 7)) (pv 2)) (pa_cons (pe_op op_add (pe_op op_mulX (pv 3) (pv 7)) (pv 4)) pa_nil)) (by rfl))) (pss_cons (ps_asg (pe_tup (pa_cons (pe_op op_add (pe_op op_mulX (pv 1) (pv 7)) (pv 2)) (pa_cons (pe_op op_mulX (pv 2) (pv 7)) (pa_cons (pe_op op_add (pe_op op_mulX (pv 3) (pv 7)) (pv 4)) (pa_cons (pe_op op_mulX (pv 4) (pv 7)) pa_nil))))) (pg_tup rfl (pgs_cons (pg_name (i := 1) sc_matrix_and_scale.nd rfl (.inl rfl)) (pgs_cons (pg_name (i := 2) sc_matrix_and_scale.nd rfl (.inl rfl)) (pgs_cons (pg_name (i := 3) sc_matrix_and_scale.nd rfl (.inl rfl)) (pgs_cons (pg_name (i := 4) sc_matrix_and_scale.nd rfl (.inl rfl)) pgs_nil))))))
      (pss_one (ps_set (i := 5) sc_matrix_and_scale.nd rfl (.inl rfl) (pe_op op_mulX (pv 5) (pv 7))))))))
      (pss_one (ps_ret (pe_tup (pa_cons (pe_tup (pa_cons (pv 1) (pa_cons (pv 2) (pa_cons (pv 3) (pa_cons (pv 4) pa_nil))))) (pa_cons (pv 5) pa_nil)))))))), ?_⟩
    refine ⟨(by show 4 ≤ sizeLine; decide), fun p0 hp0 => ⟨p0, _, rfl, SqT.of upd_same, rfl, _, _, rfl, _, _, rfl, _, _, rfl, _, _, rfl, rfl, ?_⟩⟩
    have s0 := same_upd (o := .tup [.int 1, .int 0, .int 0, .int 1]) hp0
    refine ⟨_, rfl, q, rfl, ⟨_, SqT.of (s0 _ _ hq)⟩, ?_⟩
    refine for_tup (K := K) (a := q) (xs := ws) (fun i σ H' => Same H H' ∧ ∃ v1 v2, σ = [some (.ref q), some (.int ((r.take i).foldl stepM m1).a), some (.int ((r.take i).foldl stepM m1).b), some (.int ((r.take i).foldl stepM m1).c), some (.int ((r.take i).foldl stepM m1).d), some (.int ((r.take i).foldl stepS 1)), v1, v2]) ⟨s0, none, none, rfl⟩ (fun i σ H' _ h => SqT.of (h.1 _ _ hq)) ?_ ?_
    · rintro i x σ H' hx ⟨sm, v1, v2, rfl⟩
      obtain ⟨pc, hpc, t, rfl, ht⟩ := hw.at_ hx
      have hi : i < r.length := (List.getElem?_eq_some_iff.mp hpc).1
      have tk : r.take (i + 1) = r.take i ++ [pc] := by
        rw [List.take_succ, hpc]
        rfl
      have f1 : (r.take (i + 1)).foldl stepM m1 = stepM ((r.take i).foldl stepM m1) pc := by rw [tk, List.foldl_append]; rfl
      have f2 : (r.take (i + 1)).foldl stepS 1 = stepS ((r.take i).foldl stepS 1) pc := by rw [tk, List.foldl_append]; rfl
      have okt : RowOk (r.take i) := fun z hz => hok z (List.mem_of_mem_take hz)
      have ms : MxSm 41 ((r.take i).foldl stepM m1) := (fold_sm okt m1_sm).mono (by rw [List.length_take]; omega)
      have ss : Sm 41 ((r.take i).foldl stepS 1) := (scl_sm (n := 1) okt (by unfold Sm; decide)).mono (by rw [List.length_take]; omega)
      obtain ⟨sa, sb, sc, sd⟩ := ms
      have po := ohm_sm (hok.at_ hpc)
      have ht' := sm _ _ ht
      rw [f1, f2]
      generalize (r.take i).foldl stepM m1 = m at *
      generalize (r.take i).foldl stepS 1 = sc0 at *
      refine ⟨t, _, rfl, SqT.of ht', rfl, _, _, rfl, _, _, rfl, rfl, ?_⟩
      refine ⟨_, rfl, rfl, _, rfl, ite2 (fun e => ?_) (fun e => ?_)⟩
      · have r1 : pc.1 = true := wd_inj (r' := true) (V.str.inj (of_decide_eq_true e))
        unfold stepM stepS
        rw [if_pos r1, if_pos r1]
        exact ⟨_, rfl, _, rfl, _, _, rfl, rfl, mx sa po, _, rfl, _, _, rfl, rfl, _, rfl, _, rfl, _, _, rfl, rfl, mx sc po, _, rfl, _, _, rfl, rfl, _, _, rfl, sm, _, _, rfl⟩
      · have r1 : ¬ pc.1 = true := fun z => e (decide_eq_true (by rw [z]; rfl))
        unfold stepM stepS
        rw [if_neg r1, if_neg r1]
        refine ⟨_, rfl, _, rfl, _, _, rfl, rfl, mx sa po, _, rfl, _, _, rfl, rfl, _, rfl, _, rfl, _, _, rfl, rfl, mx sb po, _, rfl, _, rfl, _, _, rfl, rfl, mx sc po, _, rfl, _, _, rfl, rfl, _, rfl, _, rfl, _, _, rfl, rfl, mx sd po, (by show 4 ≤ sizeLine; decide), fun p1 hp1 => ⟨p1, _, rfl, SqT.of upd_same, rfl, _, _, rfl, _, _, rfl, _, _, rfl, _, _, rfl, rfl, ?_⟩⟩
        exact ⟨_, rfl, _, rfl, _, _, rfl, rfl, mx ss po, sm.trans (same_upd hp1), _, _, rfl⟩
    · rintro σ H' ⟨sm, v1, v2, rfl⟩
      rw [hw.1, List.take_length]
      refine ⟨_, rfl, _, rfl, _, rfl, _, rfl, (by show 4 ≤ sizeLine; decide), fun m hm => ⟨_, rfl, (by show 2 ≤ sizeLine; decide), fun p hp => ?_⟩⟩
      have s1 := same_upd (o := .tup (MatT (matR r))) hm
      exact k _ p m ((sm.trans s1).trans (same_upd hp)) upd_same (same_upd hp _ _ upd_same) (sm.free (s1.free hp)) (sm.free hm)
abbrev s_shown_before : Stmt := top 27
theorem sc_shown_before : FnScope ["matrix", "pair", "a", "b", "c", "d", "top", "bottom"] ["matrix", "pair"] (defScope s_shown_before) := ⟨rfl, rfl, rfl, by decide +kernel, rfl, by decide +kernel, by decide +kernel⟩

theorem ok_shown {f : Addr} {fd : FuncData} (F : Fun K "shown_before" "shown_before" s_shown_before f fd) : FnOk P w K mg base CX0 1 f fd ["matrix", "pair"] spShown := by
  refine F.ok sc_shown_before (fun vs H Q E h => ?_) (fun cdv A outer s H vs Q E hr h => ?_)
  · obtain ⟨a, b, m, e, rfl, _⟩ := h
    rfl
  · obtain ⟨a, b, m, e, rfl, ha, hb, ⟨sa, sb, sc, sd⟩, s1, s2, k⟩ := h
    refine ⟨_, (pss_cons (ps_asg (pv 0) (pg_tup rfl (pgs_cons (pg_name (i := 2) sc_shown_before.nd rfl (.inl rfl)) (pgs_cons (pg_name (i := 3) sc_shown_before.nd rfl (.inl rfl)) (pgs_cons (pg_name (i := 4) sc_shown_before.nd rfl (.inl rfl)) (pgs_cons (pg_name (i := 5) sc_shown_before.nd rfl (.inl rfl)) pgs_nil))))))
      (pss_cons (ps_asg (pv 1) (pg_tup rfl (pgs_cons (pg_name (i := 6) sc_shown_before.nd rfl (.inl rfl)) (pgs_cons (pg_name (i := 7) sc_shown_before.nd rfl (.inl rfl)) pgs_nil))))
      (pss_one (ps_ret (pe_tup (pa_cons (pe_op op_add (pe_op op_mulX (pv 2) (pv 6)) (pe_op op_mulX (pv 3) (pv 7))) (pa_cons (pe_op op_add (pe_op op_mulX (pv 4) (pv 6)) (pe_op op_mulX (pv 5) (pv 7))) pa_nil))))))), ?_⟩
    refine ⟨_, rfl, a, _, rfl, SqT.of ha, rfl, _, _, rfl, _, _, rfl, _, _, rfl, _, _, rfl, rfl, ?_⟩
    refine ⟨_, rfl, b, _, rfl, SqT.of hb, rfl, _, _, rfl, _, _, rfl, rfl, ?_⟩
    refine ⟨_, rfl, _, rfl, _, _, rfl, rfl, mx sa s1, _, rfl, _, rfl, _, _, rfl, rfl, mx sb s2, _, _, rfl, rfl, _, rfl, _, rfl, _, _, rfl, rfl, mx sc s1, _, rfl, _, rfl, _, _, rfl, rfl, mx sd s2, _, _, rfl, rfl, (by show 2 ≤ sizeLine; decide), fun p hp => ?_⟩
    exact k _ p (same_upd hp) hp upd_same
end
end RL

set_option maxHeartbeats 2000000
/-! An own exception class called with arguments by position and by keyword, its __init__ a def. -/
namespace PySem
namespace RLX
open PySem.W PySem.Calls PyProof.Rows PySem.HandSPX
section
variable {prog : Program} {w : World} {M : Model} {A : Around} {E : Value → Shared → Prop} {R : Result → Shared → Prop} {h : Heap} {g : Array GenState} {d : Drawn} {t : Nat} {os : OsState}
variable {nm q : Str} {C N : Addr} {bs bm bmB : List Value} {hdct : Bool} {sn : List Str} {sub : List Value} {ab : Bool} {col : Option Bool} {dd : Option Addr} {k0 k1 k2 k3 k5 : Option Value} {B newId initId : String}
/-- the check ahead of the making -/
theorem chk_new (F : ExcBaseFacts B newId initId bmB) (hT : ∀ X : String, bm.contains (.type X) = bmB.contains (.type X)) {rest : List Value} {kw : List (Str × Value)} {Q : Unit → Shared → Prop}
    (hC : h.get? C = some (excClassObj nm q C N bs bm hdct sn sub ab col dd k0 k1 k2 k3 k5 newId)) (hq : Q () ⟨h, g, d, t, os⟩) : wpAny M A (checkBuiltinCall newId ⟨.ref C :: rest, kw⟩) Q E ⟨h, g, d, t, os⟩ := by
  have yB : (Value.ref C :: bm).contains (.type B) = true := by
    rw [List.contains_cons, hT, F.hasB, Bool.or_true]
  have st := F.noStar
  simp only [checkBuiltinCall, F.newKind, F.newSplit, F.newRow]
  repeat (first
    | refine wpAny_loadPart_at hC ?_
    | (refine wpAny_isSubtype_exc hC ?_; rw [yB])
    | refine wpAny_staticBase_exc hC ?_
    | refine wpAny_madeBy_exc hC ?_
    | simp only [bne_self_eq_false, Bool.false_eq_true, if_false]
    | wp_step)
  exact hq
/-- what the making lays: the arguments' tuple, the exception behind it -/
abbrev laid2 (C : Addr) (rest : List Value) (h : Heap) : Heap := (h.push (W.kdv_tup rest)).push (excO C h.objs.size)
theorem run_new (F : ExcBaseFacts B newId initId bmB) (hT : ∀ X : String, bm.contains (.type X) = bmB.contains (.type X)) {rest : List Value} {kw : List (Str × Value)}
    (hC : h.get? C = some (excClassObj nm q C N bs bm hdct sn sub ab col dd k0 k1 k2 k3 k5 newId))
    (hq : R (.ok (.ret (.ref (h.objs.size + 1)))) ⟨laid2 C rest h, g, d, t, os⟩) (hz : rest.length ≤ sizeLine) :
    codeAny (model prog w) A (.builtin newId ⟨.ref C :: rest, kw⟩) R ⟨h, g, d, t, os⟩ := by
  have en := F.ends
  have yB : (Value.ref C :: bm).contains (.type B) = true := by
    rw [List.contains_cons, hT, F.hasB, Bool.or_true]
  have yA : (Value.ref C :: bm).contains (.type "AttributeError") = false := by
    rw [List.contains_cons, hT, F.noAttr]
    rfl
  have yN : (Value.ref C :: bm).contains (.type "NameError") = false := by
    rw [List.contains_cons, hT, F.noName]
    rfl
  refine codeAny_builtinAt F.entry ?_
  unfold Builtin.«BaseException.__new__»
  refine wpAt_bind ?_
  show wpAt _ _ _ (stack >>= _) _ _ _
  refine wpAt_bind (wpAt_stack fun p below => wpAt_of_wpAny ?_)
  wp_walk
  refine wpAt_of_wpAny ?_
  rw [F.owner]
  repeat (first
    | with_reducible refine wpAny_madeHere_exc F.canon hC ?_
    | with_reducible refine wpAny_loadPart_at hC ?_
    | (with_reducible refine wpAny_isSubtype_exc hC ?_; first | rw [yB] | rw [yA] | rw [yN])
    | wp_step)
  show R _ _
  rw [Heap.size_push]
  exact hq
theorem run_typeCall (F : ExcBaseFacts B newId initId bmB) (hT : ∀ X : String, bm.contains (.type X) = bmB.contains (.type X)) {rest : List Value} {kw : List (Str × Value)} {fI : Addr} {Q : Fin → Shared → Prop}
    (hC : h.get? C = some (excClassObj nm q C N bs bm hdct sn sub ab col dd k0 k1 k2 k3 k5 newId))
    (hi : W.Looks (model prog w) h (typeLookup (.ref C) "__init__") (some (.ref fI))) (hb : ∀ self, W.Looks (model prog w) h (bindSpecial (.ref fI) self) (.ref fI, [self])) (hz : rest.length ≤ sizeLine)
    (hq : codeAny (model prog w) A (.call (.ref fI) ⟨.ref (h.objs.size + 1) :: rest, kw⟩)
      (fun r s' => match r with | .ok (.ret v) => v = .none ∧ Q (.done (.ret (.ref (h.objs.size + 1)))) s' | .ok _ => False | .error e => E e s')
      ⟨laid2 C rest h, g, d, t, os⟩) :
    wpAny (model prog w) A (Builtin.«type.__call__» ⟨.ref C :: rest, kw⟩) Q E ⟨h, g, d, t, os⟩ := by
  repeat (first
    | with_reducible refine wpAny_loadPart_at hC ?_
    | with_reducible refine wpAny_madeBy_exc hC ?_
    | wp_step)
  refine codeAny_call_builtin_code (Code.quiet_builtin _ F.quiet) (chk_new F hT hC (run_new F hT hC ?_ hz))
  show wpAny _ _ _ _ _ _
  have kp : ∀ b o, h.get? b = some o → (laid2 C rest h).get? b = some o := fun b o e => Heap.get?_push_of_some _ (Heap.get?_push_of_some _ e)
  have hC1 := kp _ _ hC
  have hget : (laid2 C rest h).get? (h.objs.size + 1) = some (excO C h.objs.size) := by heap_get
  have yC : (Value.ref C :: bm).contains (.ref C) = true := by simp
  have i1 := hi.keeps kp
  have b1 := (hb (.ref (h.objs.size + 1))).keeps kp
  unfold isInstance
  repeat (first
    | with_reducible refine wpAny_loadPart_at hget ?_
    | (with_reducible refine wpAny_isSubtype_exc hC1 ?_; rw [yC])
    | wp_step)
  show wpAny _ _ (typeLookup (.ref C) _) _ _ _
  refine i1.at (wpAny_holding (wpAny_bind (b1.at (wpAny_bind (wpAny_call (codeAny_mono hq fun r s' z => ?_))))))
  rcases r with e | (v | _ | _ | _) <;> first | exact z | exact z.elim | skip
  obtain ⟨rfl, z⟩ := z
  first
    | exact wpAny_pure (wpAny_pure z)
    | (wp_walk; exact z)
theorem chk_typeCall {rest : List Value} {kw : List (Str × Value)} {Q : Unit → Shared → Prop} (hC : h.get? C = some (excClassObj nm q C N bs bm hdct sn sub ab col dd k0 k1 k2 k3 k5 newId))
    (hq : Q () ⟨h, g, d, t, os⟩) : wpAny M A (checkBuiltinCall "type.__call__" ⟨.ref C :: rest, kw⟩) Q E ⟨h, g, d, t, os⟩ := by
  have f3 := tc_sub
  have ty : (⟨h, g, d, t, os⟩ : Shared).TypeIs (.ref C) "type" := ⟨_, hC, rfl⟩
  simp only [checkBuiltinCall, tc_kind, tc_split]
  repeat (any_goals (first
    | assumption
    | with_reducible refine wpAny_loadPart_at hC ?_
    | with_reducible refine wpAny_onRaise ?_
    | with_reducible refine wpAny_map ?_
    | wp_step))
/-- C(.., k = v, ..) -/
theorem run_make (F : ExcBaseFacts B newId initId bmB) (hT : ∀ X : String, bm.contains (.type X) = bmB.contains (.type X)) {rest : List Value} {kw : List (Str × Value)} {fI : Addr}
    (hC : h.get? C = some (excClassObj nm q C N bs bm hdct sn sub ab col dd k0 k1 k2 k3 k5 newId))
    (hi : W.Looks (model prog w) h (typeLookup (.ref C) "__init__") (some (.ref fI))) (hb : ∀ self, W.Looks (model prog w) h (bindSpecial (.ref fI) self) (.ref fI, [self])) (hz : rest.length ≤ sizeLine)
    (hq : codeAny (model prog w) (A.under (.builtin "type.__call__" ⟨.ref C :: rest, kw⟩)) (.call (.ref fI) ⟨.ref (h.objs.size + 1) :: rest, kw⟩) (W.InitBack (h.objs.size + 1) R) ⟨laid2 C rest h, g, d, t, os⟩) :
    codeAny (model prog w) A (.call (.ref C) ⟨rest, kw⟩) R ⟨h, g, d, t, os⟩ := by
  have f1 := tc_lookup
  have f2 := tc_bind (.ref C)
  have ty : (⟨h, g, d, t, os⟩ : Shared).TypeIs (.ref C) "type" := ⟨_, hC, rfl⟩
  refine codeAny_of_tree ?_
  show wpAny _ _ (callAny (.ref C) _) _ _ _
  repeat (any_goals (first
    | assumption
    | with_reducible refine wpAny_loadPart_at hC ?_
    | wp_step))
  refine ⟨rfl, ?_⟩
  refine codeAny_call_builtin_at (Code.quiet_builtin _ (by decide +kernel)) entry_typeCall (chk_typeCall hC (run_typeCall F hT hC hi hb hz (codeAny_mono hq fun r s' z => ?_)))
  rcases r with e | (v | _ | _ | _) <;> exact z
end
end RLX
end PySem

set_option maxHeartbeats 2000000
/-! Own exceptions held as values: made (by position, by keyword), stored into, read, asked for their class. -/
namespace RL
open PySem L2 PySem.Spec PyProof.Rows Builtin Builtin.ObjectAttr
/-- what the class at C says: an own exception class, its __init__ a def -/
def xcB (K : PySem.W.Frag) (C : Addr) (bmB : List Value) (nid : String) : Bool :=
  PySem.W.excInitIn K C bmB nid && PySem.W.excOver K C bmB && PySem.W.hasDictIn K C && PySem.W.keepIn K (.ref C) && (PySem.W.clsIn K C).isSome &&
  decide (PySem.W.findIn K (.ref C) "__setattr__" = some (some (.builtin "object.__setattr__"))) &&
  decide (PySem.W.findIn K (.ref C) "__getattribute__" = some (some (.builtin "BaseException.__getattribute__"))) &&
  decide (PySem.W.findIn K (.ref C) "__getattr__" = some none) &&
  decide (PySem.W.findIn K (.ref C) "__class__" = some (some (.builtin "object.__class__"))) &&
  decide (PySem.W.subIn K (.ref C) (.type "BaseException") = some true) && decide (PySem.W.mroIn K C (.type "object") = some true) &&
  decide (PySem.W.findIn K (.ref C) "given" = some none) && decide (PySem.W.findIn K (.ref C) "index" = some none) && decide (PySem.W.findIn K (.ref C) "most" = some none)
structure XC (K : PySem.W.Frag) (C : Addr) : Prop where
  base : ∃ (B nid iid : String) (bmB : List Value), ExcBaseFacts B nid iid bmB ∧ StoreFacts B bmB "object.__setattr__" "object" ∧ PySem.W.excInitIn K C bmB nid = true ∧ PySem.W.excOver K C bmB = true
  hd : PySem.W.hasDictIn K C = true
  kp : PySem.W.keepIn K (.ref C) = true
  cl : (PySem.W.clsIn K C).isSome = true
  sa : PySem.W.findIn K (.ref C) "__setattr__" = some (some (.builtin "object.__setattr__"))
  ga : PySem.W.findIn K (.ref C) "__getattribute__" = some (some (.builtin "BaseException.__getattribute__"))
  gg : PySem.W.findIn K (.ref C) "__getattr__" = some none
  ca : PySem.W.findIn K (.ref C) "__class__" = some (some (.builtin "object.__class__"))
  sub : PySem.W.subIn K (.ref C) (.type "BaseException") = some true
  mo : PySem.W.mroIn K C (.type "object") = some true
  n1 : PySem.W.findIn K (.ref C) "given" = some none
  n2 : PySem.W.findIn K (.ref C) "index" = some none
  n3 : PySem.W.findIn K (.ref C) "most" = some none
theorem xcB_ok {K : PySem.W.Frag} {C : Addr} {bmB : List Value} {B nid iid : String} (F : ExcBaseFacts B nid iid bmB) (S : StoreFacts B bmB "object.__setattr__" "object") (h : xcB K C bmB nid = true) : XC K C := by
  unfold xcB at h
  simp only [Bool.and_eq_true, decide_eq_true_eq] at h
  obtain ⟨⟨⟨⟨⟨⟨⟨⟨⟨⟨⟨⟨⟨h1, h2⟩, h3⟩, h4⟩, h5⟩, h6⟩, h7⟩, h8⟩, h9⟩, h10⟩, h11⟩, h12⟩, h13⟩, h14⟩ := h
  exact ⟨⟨B, nid, iid, bmB, F, S, h1, h2⟩, h3, h4, h5, h6, h7, h8, h9, h10, h11, h12, h13, h14⟩
/-- the row that isinstance asks of object.__class__ -/
structure XK0 (K : PySem.W.Frag) : Prop where
  cn : PySem.W.specialIn K (.builtin "object.__class__") "__get__" = some (some (.builtin "getset_descriptor.__get__"))
  ct : PySem.W.takesIn K (.builtin "object.__class__") = some true
section
variable {prog : Program} {w : World} {A : Around} {R : Result → Shared → Prop} {hp : Heap} {g : Array GenState} {d : Drawn} {t : Nat} {os : OsState} {B : String} {bmB : List Value} {C : Addr}
theorem x_store {K : PySem.W.Frag} {name : Str} {tk : Tok} {v : Value} {x t1 : Addr} (SF : StoreFacts B bmB "object.__setattr__" "object") (X : K.In hp) (hx : hp.get? x = some (PySem.HandSPX.excO C t1))
    (ov : PySem.W.excOver K C bmB = true) (hh : PySem.W.hasDictIn K C = true) (ha : PySem.W.findIn K (.ref C) name = some none)
    (hq : ∀ h' tk' dx, (∀ b o, b ≠ x → hp.get? b = some o → h'.get? b = some o) → hp.objs.size ≤ dx → dx ≠ x → h'.get? x = some { PySem.HandSPX.excO C t1 with dict := some dx } →
      h'.Ns1 dx (fun y => if y = name then some v else none) → R (.ok (.ret .none)) ⟨h', g, d, tk', os⟩) :
    codeAny (model prog w) A (.call (.builtin "object.__setattr__") ⟨[.ref x, .str name tk, v], []⟩) R ⟨hp, g, d, t, os⟩ := by
  have tkr : PySem.W.takerIn K C name = some none := by
    unfold PySem.W.takerIn
    rw [ha]
    rfl
  obtain ⟨cd, hc, hd'⟩ := PySem.W.any_some hh
  have hxs : x ≠ hp.objs.size := Nat.ne_of_lt (Heap.lt_size hx)
  refine PySem.W.osa_openX (od := none) SF X ⟨hx, rfl, rfl, trivial⟩ ov tkr fun b => ?_
  refine wpAny_bind (wpAny_pure (wpAny_bind (PySem.W.instanceDict_exc (t := t1) (c2 := .none) hx (PySem.W.looks_clsIn X hc) hd' ?_)))
  show wpAny _ _ (storeInDict hp.objs.size (.str name tk) name v) _ _ _
  refine PySem.HandSPX.store_in_new ?_ ?_
  · exact ⟨_, #[], _, (Heap.get?_update_ne _ _ _ _ hxs.symm).trans (Heap.get?_push_at rfl rfl), rfl, fun e he => absurd he (by simp), fun _ => rfl⟩
  · intro h' tk' hn' hs
    have hx1 : (hp.push (PySem.W.dictOf [] 0)).get? x = some (PySem.HandSPX.excO C t1) := Heap.get?_push_of_some _ hx
    refine hq h' tk' hp.objs.size (fun b o hb ho => ?_) (Nat.le_refl _) hxs.symm ?_ hn'
    · exact (hs.2 b (Nat.ne_of_lt (Heap.lt_size ho))).trans ((Heap.get?_update_ne _ _ _ _ hb).trans (Heap.get?_push_of_some _ ho))
    · exact (hs.2 x hxs).trans (Heap.get?_update_self _ hx1 rfl)
end
section
variable {X : Cx} {pins : List (Addr × Obj)} {σ : L2.St} {H : Hp} {s : Shared} {a C dx : Addr} {f : Str} {y : V} {u : Value} {Q : Unit → Shared → Prop} {E : Value → Shared → Prop} {A : Around}
/-- self.f = y, the first one -/
theorem x_set (T : XC X.K C) (I : Inv X pins σ H s) (e : H a = some (exo a C none)) (hno : PySem.W.findIn X.K (.ref C) f = some none) (ry : RelV y u)
    (h : ∀ dx s', H dx = none → dx ≠ a → Inv X pins σ (upd (upd H dx (exd dx [(f, y)])) a (exo a C (some dx))) s' → Q () s') : wpAny (model X.prog X.w) A (setAttr (.ref a) f u) Q E s := by
  obtain ⟨B, nid, iid, bmB, FB, SF, _, ov⟩ := T.base
  obtain ⟨t1, ho⟩ := exo_at I.hok e
  obtain ⟨hp, g, d, t, os⟩ := s
  refine PySem.W.set_plain I.kIn (ox := PySem.HandSPX.excO C t1) (od := none) ⟨ho, rfl, rfl, trivial⟩ T.sa ?_
  refine x_store SF I.kIn ho ov T.hd hno (fun h' tk' dx k dn dne hx hn => ?_)
  have hnd : H dx = none := I.hok.fresh dn
  have nd : ∀ {b : Addr} {o : Obj}, hp.get? b = some o → b ≠ dx := fun {b o} q z => absurd (Heap.lt_size q) (by rw [z]; exact Nat.not_lt.mpr dn)
  have na : ∀ {b : Addr}, H b = none → b ≠ a := fun {b} n z => by
    rw [z, e] at n
    cases n
  have there : ∀ b o, hp.get? b = some o → ∃ o', h'.get? b = some o' := fun b o q => by
    by_cases hb : b = a
    · exact ⟨_, by rw [hb]; exact hx⟩
    · exact ⟨o, k b o hb q⟩
  refine h dx _ hnd dne (I.un (t' := tk') (Un.mk (fun b o q n _ _ => k b o (na n) q) (fun b o q n _ _ => ⟨o.slots, k b o (na n) q⟩) (fun b o q n _ => by rw [upd_ne (na n), upd_ne (nd q)]; exact n) (fun b o q _ => there b o q)
    (fun b xs q => by rw [upd_ne (at_ne e q exo_tup), upd_ne (ne_of_none q hnd)]; exact q) (fun b o v q => by rw [upd_ne (at_ne e q exo_frz), upd_ne (ne_of_none q hnd)]; exact q)
    (fun b ps q => ⟨#[], by rw [upd_ne (at_ne e q exo_tbl), upd_ne (ne_of_none q hnd), q]; simp⟩)) fun b o q => ?_)
  by_cases hb : b = a
  · rw [hb, upd_same] at q
    cases q
    rw [hb]
    exact exo_ok hx
  rw [upd_ne hb] at q
  by_cases hd : b = dx
  · rw [hd, upd_same] at q
    cases q
    rw [hd]
    exact exd_ok hn (relO_put (fs := []) ry fun g => True.intro)
  rw [upd_ne hd] at q
  refine (I.hok b o q).stay (fun c v hc z => k c v ?_ z) (fun c hc => ?_) (fun c xs hc => ?_)
  · rcases hc with hc | hc
    · rw [hc]
      exact hb
    · exact at_ne e hc exo_own
  · rw [upd_ne (at_ne e hc exo_own), upd_ne (ne_of_none hc hnd)]
    exact hc
  · rw [upd_ne (at_ne e hc exo_tup), upd_ne (ne_of_none hc hnd)]
    exact hc
end
/-- self.f = e -/
def tXst (K : PySem.W.Frag) (f : Str) (to te : TE) : TS := fun D σ H => te σ H fun y H1 => to σ H1 fun x H2 => ∃ a C : Addr, x = .ref a ∧ XC K C ∧ PySem.W.findIn K (.ref C) f = some none ∧ H2 a = some (exo a C none) ∧
  ∀ dx, H2 dx = none → dx ≠ a → D.nx σ (upd (upd H2 dx (exd dx [(f, y)])) a (exo a C (some dx)))
section
variable {X : Cx} {o e : Expr} {es : List Expr} {to te : TE} {ta tk : TA} {f : Str} {p p' p1 p2 pos : Pos}
theorem ps_xst (ho : PE X o to) (he : PE X e te) (hs : swapsWith e (some (.Attribute o f p')) pos.line X.env = pure false := by rfl) : PS X (.Assign [.Attribute o f p'] e pos) (tXst X.K f to te) := by
  refine ⟨fun pins s σ H D I h => plainObj_wpAny_Assign_Attribute (thn (he.run pins s σ H _ I h) fun v s1 ⟨y, H1, I1, r1, q1⟩ => thn (ho.run pins s1 σ H1 _ I1 q1) fun u s2 ⟨x, H2, I2, r2, a, C, ex, T, hno, ea, q⟩ => ?_) hs⟩
  subst ex
  cases (show u = Value.ref a from r2)
  exact x_set T I2 ea hno r1 fun dx s' n ne J => ⟨σ, _, J, q dx n ne⟩
/-- Base.m(e, ..), m a def of the class at C -/
theorem pe_xbase {C g : Addr} {mc : Value} {fd : FuncData} {ps : List Str} {sp : Sp} {k : Nat} {x m : Str} {pl : Sem Bool} (gC : X.mg x = some (.ref C)) (hg : Gl X x) (r : ClX.CRead X.K C mc) (hf : PySem.W.findCls X.K (.ref C) mc m = some (.val (.ref g)))
    (kp : PySem.W.keepIn X.K (.ref g) = true) (F : FnOk X.prog X.w X.K X.mg X.base CX0 k g fd ps sp) (hr : Room k X.A) (hb : Binds X.K fd ps []) (ha : PA X (e :: es) ta)
    (hc : eval (.Call (.Attribute (.Name x p1) m p2) (e :: es) [] pos) X.env = (do
      let ov ← eval (.Name x p1) X.env
      standAt p2.atName
      let (f, first) ← holding [ov] (getMethod ov m pl)
      callWith pos f first (backTo pos (starEach (e :: es) X.env)) (backToKw pos (keywordEach [] X.env))) := by rfl)
    (hdb : (x == ("__debug__" : Str)) = false := by decide) (he : starEach (e :: es) X.env = (false, eval e X.env) :: starEach es X.env := by rfl) (hpl : (backTo pos (starEach es X.env)).any (·.1) = false := by rfl) :
    PE X (.Call (.Attribute (.Name x p1) m p2) (e :: es) [] pos) (tCall sp [] E0 ta) := by
  refine ⟨fun pins s σ H Q I h => PySem.W.methodCall_KW (ld_glob I hg gC (PySem.W.method_cls I.kIn r.ga (ClX.getcval_ok (v := .ref g) I r ⟨hf, rfl⟩ fun s0 I0 => ?_)) hdb) hc⟩
  refine PySem.W.callWith_K (h₀ := X.base) I0.ok.mod.kin kp (thn (ha.run pos pins s0 σ H _ I0 h) fun us s1 ⟨vs, H1, I1, r1, q⟩ => ⟨I1.kIn, ?_⟩) he hpl
  exact run_fn F hr hb .nil pass0 I1 r1 q
/-- C(e, .., k = v, ..): a new exception without a dict, then __init__ -/
def tXmk (C : Addr) (n m : Nat) (sp : Sp) (gV : List V → List V → List V) (t tk : TA) : TE := fun σ H Q => t σ H fun vs H1 => tk σ H1 fun zs H2 => vs.length = n ∧ zs.length = m ∧
  ∀ a, H2 a = none → sp (gV (.ref a :: vs) zs) (upd H2 a (exo a C none)) (fun v H3 => v = .non ∧ Q (.ref a) H3) E0
/-- the class at C and its __init__ -/
structure XM (P : Program) (w : World) (K : PySem.W.Frag) (mg : Str → Option Value) (base : Heap) (k : Nat) (C : Addr) (ps : List Str) (sp : Sp) : Prop where
  xc : XC K C
  ex : ∃ (g : Addr) (fd : FuncData), PySem.W.findIn K (.ref C) "__init__" = some (some (.ref g)) ∧ PySem.W.isFn K (.ref g) = true ∧ FnOk P w K mg base CX0 k g fd ps sp ∧ Binds K fd ps [] ∧
    ∀ y z, ps = [y, z] → KBn K fd ps 1 [z] (fun us ws => us ++ ws) (fun vs zs => vs ++ zs)
theorem run_xmk {k n : Nat} {C g : Addr} {fd : FuncData} {ps ks : List Str} {sp : Sp} {gU : List Value → List Value → List Value} {gV : List V → List V → List V} {pins : List (Addr × Obj)} {σ : L2.St} {H : Hp} {s : Shared} {Q : VK} {us ws : List Value} {vs zs : List V}
    (T : XC X.K C) (iC : PySem.W.findIn X.K (.ref C) "__init__" = some (some (.ref g))) (tI : PySem.W.isFn X.K (.ref g) = true) (F : FnOk X.prog X.w X.K X.mg X.base CX0 k g fd ps sp) (hr : Room (k + 1) X.A) (hb : KBn X.K fd ps (n + 1) ks gU gV)
    (I : Inv X pins σ H s) (r : Vals vs us) (rz : Vals zs ws) (l1 : vs.length = n) (l2 : zs.length = ks.length) (ln : n ≤ 1000)
    (h : ∀ a, H a = none → sp (gV (.ref a :: vs) zs) (upd H a (exo a C none)) (fun v H2 => v = .non ∧ Q (.ref a) H2) E0) :
    wpAny (model X.prog X.w) X.A (call (.ref C) us (ks.zip ws)) (EP X pins σ Q) X.xe s := by
  obtain ⟨B, nid, iid, bmB, FB, SF, q, ov⟩ := T.base
  obtain ⟨nm, N', qn, bs, bm, hdct, sn, sub, ab, col, dd, k0, k1, k2, k3, k5, hC, hT⟩ := PySem.W.excInit_of I.kIn q
  have bf : ∀ self, PySem.W.Looks (model X.prog X.w) s.heap (bindSpecial (.ref g) self) (.ref g, [self]) := fun self => PySem.W.bind_fn I.kIn self (beq_iff_eq.mp tI)
  have li := PySem.W.looks_findIn (M := model X.prog X.w) I.kIn iC
  obtain ⟨hp, gs, dr, tk, os⟩ := s
  have hq := h (hp.objs.size + 1) (I.hok.fresh (Nat.le_succ _))
  have kk : ∀ b o, hp.get? b = some o → (PySem.RLX.laid2 C us hp).get? b = some o := fun b o e => Heap.get?_push_of_some _ (Heap.get?_push_of_some _ e)
  have hget : (PySem.RLX.laid2 C us hp).get? (hp.objs.size + 1) = some (PySem.HandSPX.excO C hp.objs.size) := by heap_get
  have I2 : Inv X pins σ (upd H (hp.objs.size + 1) (exo (hp.objs.size + 1) C none)) ⟨PySem.RLX.laid2 C us hp, gs, dr, tk, os⟩ :=
    I.laid (t' := tk) (a := hp.objs.size + 1) (o := exo (hp.objs.size + 1) C none) (h' := PySem.RLX.laid2 C us hp) kk (Nat.le_succ _) (exo_ok hget)
  have r1 : Vals (V.ref (hp.objs.size + 1) :: vs) (Value.ref (hp.objs.size + 1) :: us) := .cons rfl r
  have n1 : (Value.ref (hp.objs.size + 1) :: us).length = n + 1 := by rw [List.length_cons, ← r.length, l1]
  have hz : us.length ≤ sizeLine := by
    rw [← r.length, sizeLine_eq]
    omega
  refine wpAny_call (PySem.RLX.run_make FB hT hC li bf hz (codeAny_mono (F.run _ X.stack _ _ ⟨Value.ref (hp.objs.size + 1) :: us, ks.zip ws⟩ (gU (Value.ref (hp.objs.size + 1) :: us) ws) _ _ E0 (hr.make C us (ks.zip ws))
    (I2.env0.make C us (ks.zip ws)) (hb.to _ (Value.ref (hp.objs.size + 1) :: us) ws I2.kIn n1 (rz.length.symm.trans l2)) (hb.rel r1 rz) hq) fun r s' z => ?_))
  cases r with
  | error e => exact z.elim
  | ok fl =>
    cases fl with
    | ret u =>
      obtain ⟨v, H', I3, rv, ev, q3⟩ := I2.after z
      subst ev
      exact ⟨rv, ⟨V.ref (hp.objs.size + 1), H', I3, rfl, q3⟩⟩
    | next => exact z.elim
    | brk => exact z.elim
    | cont => exact z.elim
theorem kbn_of {K : PySem.W.Frag} {fd : FuncData} {ps : List Str} {n : Nat} (hb : Binds K fd ps []) (hl : ps.length = n) : KBn K fd ps n [] (fun us _ => us) (fun vs _ => vs) :=
  ⟨fun s us ws hK l1 l2 => by
    have e := hb s us hK (by rw [List.append_nil, l1, hl])
    rw [List.append_nil] at e
    exact e, fun r _ => r⟩
/-- C(k = v) -/
theorem pe_xmkK {C : Addr} {k : Nat} {x y z : Str} {sp : Sp} {kws : List Keyword} (M : XM X.prog X.w X.K X.mg X.base k C [y, z] sp) (hr : Room (k + 1) X.A) (hg : Gl X x) (hm : X.mg x = some (.ref C)) (hkw : PK X kws tk)
    (hall : (backToKw pos (keywordEach kws X.env)).all (·.1.isSome) = true := by rfl) (hks : (backToKw pos (keywordEach kws X.env)).filterMap (·.1) = [z] := by rfl) (hdb : (x == ("__debug__" : Str)) = false := by decide)
    (hpl : ((backTo pos (starEach [] X.env)).any (·.1) || (backToKw pos (keywordEach kws X.env)).any (·.1.isNone)) = false := by rfl) :
    PE X (.Call (.Name x p) [] kws pos) (tXmk C 0 1 sp (fun vs zs => vs ++ zs) tNil tk) := by
  obtain ⟨g, fd, iC, tI, F, _, hK⟩ := M.ex
  refine ⟨fun pins s σ H Q I h => wpAny_Call_Name_kw (ld_glob I hg hm (PySem.W.callWith_KW0 (h₀ := X.base) I.ok.mod.kin M.xc.kp hall ?_ hpl) hdb)⟩
  refine thn (hkw.run pos pins s σ H _ I h) fun ws s2 ⟨zs, H2, I2, rz, l1, l2, q2⟩ => ⟨I2.kIn, ?_⟩
  rw [hks]
  exact run_xmk (us := []) (vs := []) M.xc iC tI F hr (hK y z rfl) I2 .nil rz rfl l2 (by decide) q2
/-- C(e, ..) -/
theorem pe_xmk {C : Addr} {k : Nat} {x : Str} {sp : Sp} {ps : List Str} (M : XM X.prog X.w X.K X.mg X.base k C ps sp) (hr : Room (k + 1) X.A) (hg : Gl X x) (hm : X.mg x = some (.ref C)) (ha : PA X (e :: es) ta) (hn : ps.length = (e :: es).length + 1) (hn2 : (e :: es).length ≤ 1000)
    (hdb : (x == ("__debug__" : Str)) = false := by decide) (he : starEach (e :: es) X.env = (false, eval e X.env) :: starEach es X.env := by rfl) (hpl : (backTo pos (starEach es X.env)).any (·.1) = false := by rfl) :
    PE X (.Call (.Name x p) (e :: es) [] pos) (tXmk C (e :: es).length 0 sp (fun vs _ => vs) ta tNil) := by
  obtain ⟨g, fd, iC, tI, F, hb, _⟩ := M.ex
  refine ⟨fun pins s σ H Q I h => wpAny_Call_Name_kw (ld_glob I hg hm (PySem.W.callWith_K (h₀ := X.base) I.ok.mod.kin M.xc.kp (thn (ha.run pos pins s σ H _ I h) fun us s1 ⟨vs, H1, I1, r, l1, _, q⟩ => ⟨I1.kIn, ?_⟩) he hpl) hdb)⟩
  exact run_xmk (ks := []) (ws := []) (zs := []) M.xc iC tI F hr (kbn_of hb hn) I1 r .nil l1 rfl hn2 q
/-- C() -/
theorem pe_xmk0 {C : Addr} {k : Nat} {x : Str} {sp : Sp} {y : Str} (M : XM X.prog X.w X.K X.mg X.base k C [y] sp) (hr : Room (k + 1) X.A) (hg : Gl X x) (hm : X.mg x = some (.ref C))
    (hdb : (x == ("__debug__" : Str)) = false := by decide) :
    PE X (.Call (.Name x p) [] [] pos) (tXmk C 0 0 sp (fun vs _ => vs) tNil tNil) := by
  obtain ⟨g, fd, iC, tI, F, hb, _⟩ := M.ex
  refine ⟨fun pins s σ H Q I h => wpAny_Call_Name_kw (ld_glob I hg hm (PySem.W.callWith_K0 I.kIn M.xc.kp ?_) hdb)⟩
  obtain ⟨_, _, q⟩ := h
  exact run_xmk (us := []) (vs := []) (ks := []) (ws := []) (zs := []) M.xc iC tI F hr (kbn_of hb rfl) I .nil .nil rfl rfl (by decide) q
/-! ### asked and read -/
/-- an exception of the class at C -/
def Exo (H : Hp) (a C : Addr) : Prop := H a = some (exo a C none) ∨ ∃ (dx : Addr) (fs : List (Str × V)), H a = some (exo a C (some dx)) ∧ H dx = some (exd dx fs)
def rIsX (K : PySem.W.Frag) : List V → Hp → VK → Prop := fun xs H Q => ∃ (a C : Addr) (c : V) (u : Value) (b : Bool), xs = [.ref a, c] ∧ ClsV c u ∧ XC K C ∧ Exo H a C ∧ PySem.W.kitOne K (.ref C) u = some b ∧ Q (.bl b) H
theorem call_isX (Z : XK0 X.K) : CallR X (.builtin "isinstance") (rIsX X.K) := by
  intro pins s σ H xs us Q I r h
  obtain ⟨a, C, c, u, b, rfl, kc, T, hx, e, q⟩ := h
  obtain ⟨u1, u2, rfl, r1, r2⟩ := vals2 r
  have e2 := kc.eq r2
  subst e2
  cases (show u1 = Value.ref a from r1)
  have key : ∃ ox od, PySem.W.InstAt s.heap a ox C od := by
    rcases hx with hx | ⟨dx, fs, hx, hd⟩
    · obtain ⟨t1, ho⟩ := exo_at I.hok hx
      exact ⟨_, none, ho, rfl, rfl, trivial⟩
    · obtain ⟨t1, ho⟩ := exo_at I.hok hx
      obtain ⟨mA, ⟨od, es, ep, hod, _⟩, _⟩ := exd_at I.hok hd
      exact ⟨_, some od, ho, rfl, rfl, hod⟩
  obtain ⟨ox, od, J⟩ := key
  exact PySem.W.kia_one (PySem.W.kitx_exc (ox := ox) (od := od) T.cl T.ga T.gg T.sub T.ca Z.cn Z.ct T.mo) I.kIn J e (fun z => nomatch z) fun tk => ⟨.bl b, H, I.tok tk, rfl, q⟩
/-- e.f, e an exception with a dict -/
def tXfd (K : PySem.W.Frag) (f : Str) (te : TE) : TE := fun σ H Q => te σ H fun x H1 => ∃ (a C dx : Addr) (fs : List (Str × V)) (v : V), x = .ref a ∧ XC K C ∧ PySem.W.findIn K (.ref C) f = some none ∧ H1 a = some (exo a C (some dx)) ∧ H1 dx = some (exd dx fs) ∧ fs.lookup f = some v ∧ Q v H1
theorem pe_xfd {n : Str} (he : PE X e te) (hb : attributeBase e n X.env (eval e X.env) = eval e X.env := by rfl) : PE X (.Attribute e n pos) (tXfd X.K n te) := by
  refine ⟨fun pins s σ H Q I h => attr_of hb (thn (he.run pins s σ H _ I h) fun u s1 ⟨x, H1, I1, rx, a, C, dx, fs, v, ex, T, hno, ea, ed, l, q⟩ => ?_)⟩
  subst ex
  cases (show u = Value.ref a from rx)
  obtain ⟨t1, ho⟩ := exo_at I1.hok ea
  obtain ⟨mA, hns, hr⟩ := exd_at I1.hok ed
  obtain ⟨od, hod, hl⟩ := lookIn_ns hns
  obtain ⟨u, hu, ru⟩ := RelO.some_of (v := v) (o := mA n) (by rw [← l]; exact hr n)
  have J : PySem.W.InstAt s1.heap a _ C (some od) := ⟨ho, rfl, rfl, hod⟩
  exact HandSPX.exc_get I1.kIn J T.ga T.gg T.sub (PySem.W.findObj_own T.hd hno rfl (by rw [hl, hu])) (handed_of ru) ⟨v, H1, I1.tok _, ru, q⟩
end
end RL

set_option maxHeartbeats 1000000
/-! repr of plain things: None, bools, ints, texts, lists, tuples, flat dicts. -/
namespace RL
open PySem L2 PySem.Spec PyProof.Rows
def keyD : Key → PyData
  | .inl i => .int i
  | .inr x => .str x
/-- v is, by the heap, the data d: as Dp, or a dict of ints -/
inductive Dq (K : PySem.W.Frag) (H : Hp) : V → PyData → Prop
  | dp {v : V} {d : PyData} : Dp K H v d → d.hasDict = false → Dq K H v d
  | dk {a : Addr} {kvs : List (Key × Int)} : H a = some (.dK (kvs.map fun p => (p.1, V.int p.2))) → Dq K H (.ref a) (.dict (kvs.map fun p => (keyD p.1, .int p.2)))
theorem dk_reads {P : Program} {w : World} {h : Heap} : ∀ {kvs : List (Key × Int)} {vs : List (Key × Value)} {es : List DictEntry}, KV (kvs.map fun p => (p.1, V.int p.2)) vs → Pairs (mixKind P w) es vs →
    ReadsAll h (es.map (·.key)) ((kvs.map fun p => (keyD p.1, PyData.int p.2)).map (·.1)) [] ∧ ReadsAll h (es.map (·.val)) ((kvs.map fun p => (keyD p.1, PyData.int p.2)).map (·.2)) []
  | [], _, _, r, q => by
    cases r
    cases q
    exact ⟨.nil, .nil⟩
  | (k, i) :: kvs, _, _, r, q => by
    cases r with
    | cons r1 r2 =>
      cases q with
      | cons q1 q2 q3 =>
        obtain ⟨e1, e2⟩ := r1
        obtain ⟨h1, h2⟩ := dk_reads (P := P) (w := w) (h := h) r2 q3
        refine ⟨?_, ?_⟩
        · have q1' := q1
          rw [mixKind_is, ← e1] at q1'
          rcases keyIs_shape q1' with ⟨j, t, ek, ev⟩ | ⟨x, t, ek, ev⟩
          · have ek : k = _ := ek
            subst ek
            rw [List.map_cons, ev]
            exact ReadsAll.cons (Reads.int _ _) h1
          · have ek : k = _ := ek
            subst ek
            rw [List.map_cons, ev]
            exact ReadsAll.cons (Reads.str _ _) h1
        · obtain ⟨t, e2⟩ := e2
          rw [List.map_cons, q2, e2]
          exact ReadsAll.cons (Reads.int _ _) h2
section
variable {X : Cx}
def rRp (K : PySem.W.Frag) : List V → Hp → VK → Prop := fun vs H Q => ∃ (v : V) (d : PyData), vs = [v] ∧ Dq K H v d ∧ d.showable = true ∧ d.depth ≤ 40 ∧ d.shown.length ≤ sizeLine ∧ Q (.str d.shown) H
theorem cr_rp (hG : X.A.guards = some []) (hu : X.A.units + 64 < cLine) : CallR X (.builtin "repr") (rRp X.K) := by
  intro pins s σ H vs us Q I r h
  obtain ⟨v, d, rfl, hd, h1, h3, h4, q⟩ := h
  obtain ⟨u, rfl, ru⟩ : ∃ u, us = [u] ∧ RelV v u := by
    cases r with
    | cons r1 r2 =>
      cases r2
      exact ⟨_, rfl, r1⟩
  cases hd with
  | dp hp h2 =>
    cases hp with
    | non =>
      cases (show u = Value.none from ru)
      exact PySem.P.repr_of_none ⟨.str "None", H, I.tok _, ⟨_, rfl⟩, q⟩
    | bl b =>
      cases (show u = Value.bool b from ru)
      exact PySem.P.repr_of_bool ⟨.str (PyData.bool b).shown, H, I.tok _, ⟨_, rfl⟩, q⟩
    | int i =>
      obtain ⟨t, rfl⟩ := ru
      exact PySem.P.repr_of_int (of_decide_eq_true h1) ⟨.str (PyData.int i).shown, H, I.tok _, ⟨_, rfl⟩, q⟩
    | str x =>
      obtain ⟨t, rfl⟩ := ru
      exact PySem.P.repr_of_str ⟨.str (PyData.str x).shown, H, I.tok _, ⟨_, rfl⟩, q⟩ h4
    | @lst a xs ds hs ha =>
      exact cr_repr hG hu pins s σ H _ _ Q I (.cons ru .nil) ⟨a, _, rfl, .lst hs ha, h1, h2, h3, h4, q⟩
    | @tup a xs ds hs ha =>
      exact cr_repr hG hu pins s σ H _ _ Q I (.cons ru .nil) ⟨a, _, rfl, .tup hs ha, h1, h2, h3, h4, q⟩
  | @dk a kvs ha =>
    cases (show u = Value.ref a from ru)
    obtain ⟨_, hsys, vs, kv, o, es, ep, ho, hc, hdat, _, hp, _⟩ := (show ObjOk X.prog X.w H s.heap a (.dK _) from I.hok a _ ha)
    obtain ⟨g1, g2⟩ := dk_reads (h := s.heap) kv hp
    refine repr_of_reads' (h₀ := s.heap) (Reads.dict ho hc.1 hdat g1 g2) h1 (fun _ hm => ?_) hG (by omega) (fun _ _ z => z) (fun h' u tk hk => ⟨.str _, H, I.kept hk, ⟨_, rfl⟩, q⟩) h4
    have hm' : sysModules ∈ [a] := hm
    rw [List.mem_singleton] at hm'
    rw [← hm'] at hsys
    exact absurd hsys (by decide)
end
theorem sqT_same {K : PySem.W.Frag} {H H' : Hp} {a : Addr} {xs : List V} (e : ∀ b o, H b = some o → H' b = some o) (h : SqT K H a xs) : SqT K H' a xs := by
  rcases h with (h | ⟨o, h⟩) | h
  · exact .inl (.inl (e _ _ h))
  · exact .inl (.inr ⟨o, e _ _ h⟩)
  · exact .inr h
mutual
theorem dp_same {K : PySem.W.Frag} {H H' : Hp} (s : ∀ b o, H b = some o → H' b = some o) : ∀ (d : PyData) (v : V), Dp K H v d → Dp K H' v d
  | .none, _, h => by
    cases h
    exact .non
  | .bool b, _, h => by
    cases h
    exact .bl b
  | .int i, _, h => by
    cases h
    exact .int i
  | .str x, _, h => by
    cases h
    exact .str x
  | .list ds, _, h => by
    cases h with
    | lst a b => exact .lst (Same.seq s a) (dpAll_same s ds _ b)
  | .tuple ds, _, h => by
    cases h with
    | tup a b => exact .tup (sqT_same s a) (dpAll_same s ds _ b)
  | .dict _, _, h => by cases h
theorem dpAll_same {K : PySem.W.Frag} {H H' : Hp} (s : ∀ b o, H b = some o → H' b = some o) : ∀ (ds : List PyData) (vs : List V), DpAll K H vs ds → DpAll K H' vs ds
  | [], _, h => by
    cases h
    exact .nil
  | d :: ds, _, h => by
    cases h with
    | cons a b => exact .cons (dp_same s d _ a) (dpAll_same s ds _ b)
end
theorem Dq.same {K : PySem.W.Frag} {H H' : Hp} {v : V} {d : PyData} (h : Dq K H v d) (s : Same H H') : Dq K H' v d := by
  cases h with
  | dp a b => exact .dp (dp_same s _ _ a) b
  | dk a => exact .dk (s _ _ a)
end RL

set_option maxHeartbeats 1000000
/-! what repr shows of well-formed data is a well-formed text -/
namespace RL
open PySem L2 PySem.Spec PyProof.Rows PySem.Builtin.Str
def Uok (x : Str) : Prop := ∀ c ∈ x.cps.toList, c < 0x110000
theorem Uok.app {x y : Str} (h : Uok x) (k : Uok y) : Uok (x ++ y) := fun c hc => by
  have e : (x ++ y).cps.toList = x.cps.toList ++ y.cps.toList := by
    show (x.cps ++ y.cps).toList = _
    rw [Array.toList_append]
  rw [e] at hc
  exact (List.mem_append.mp hc).elim (h c) (k c)
theorem chr_lt (ch : Char) : ch.toNat < 0x110000 := by
  have h := ch.valid
  have e : ch.toNat = ch.val.toNat := rfl
  rcases h with h | h
  · have h2 : ch.val.toNat < 0xd800 := h
    omega
  · have h2 : ch.val.toNat < 0x110000 := h.2
    omega
theorem Uok.of (s : String) : Uok (Str.ofString s) := fun c hc => by
  rw [PyProof.Rows.signs_ofString] at hc
  obtain ⟨ch, _, rfl⟩ := List.mem_map.mp hc
  exact chr_lt ch
theorem Uok.join {y : Str} (hy : Uok y) : ∀ {l : List Str}, (∀ x ∈ l, Uok x) → Uok (Str.join y l)
  | [], _ => fun c hc => absurd (show c ∈ ([] : List Nat) from hc) (by simp)
  | [x], h => h x List.mem_cons_self
  | x :: z :: l, h => by
    show Uok (x ++ y ++ Str.join y (z :: l))
    exact ((h x List.mem_cons_self).app hy).app (Uok.join hy fun a ha => h a (List.mem_cons_of_mem _ ha))
theorem reprChar_lt {q c : Nat} (hc : c < 0x110000) : ∀ d ∈ reprChar q c, d < 0x110000 := by
  intro d hd
  have hx : ∀ (n : Nat), d ∈ List.replicate (n - ((Nat.toDigits 16 c).map Char.toNat).length) 48 ++ (Nat.toDigits 16 c).map Char.toNat → d < 0x110000 := fun n h => by
    rcases List.mem_append.mp h with h | h
    · rw [List.eq_of_mem_replicate h]
      omega
    · obtain ⟨ch, _, rfl⟩ := List.mem_map.mp h
      exact chr_lt ch
  unfold reprChar at hd
  split at hd
  · simp only [List.mem_cons, List.not_mem_nil, or_false] at hd
    rcases hd with rfl | rfl <;> omega
  split at hd
  · simp only [List.mem_cons, List.not_mem_nil, or_false] at hd
    rcases hd with rfl | rfl <;> omega
  split at hd
  · simp only [List.mem_cons, List.not_mem_nil, or_false] at hd
    rcases hd with rfl | rfl <;> omega
  split at hd
  · simp only [List.mem_cons, List.not_mem_nil, or_false] at hd
    rcases hd with rfl | rfl <;> omega
  split at hd
  · simp only [List.mem_cons, List.not_mem_nil, or_false] at hd
    omega
  have hp : ∀ (u n : Nat), u < 0x110000 → d ∈ [92, u] ++ (List.replicate (n - ((Nat.toDigits 16 c).map Char.toNat).length) 48 ++ (Nat.toDigits 16 c).map Char.toNat) → d < 0x110000 := fun u n hu h => by
    rcases List.mem_append.mp h with h | h
    · simp only [List.mem_cons, List.not_mem_nil, or_false] at h
      rcases h with rfl | rfl <;> omega
    · exact hx n h
  split at hd
  · exact hp _ _ (by omega) hd
  split at hd
  · exact hp _ _ (by omega) hd
  · exact hp _ _ (by omega) hd
theorem uok_repr {x : Str} (h : Uok x) : Uok (reprText x) := by
  have hq : reprQuote x < 0x110000 := by
    unfold reprQuote
    split <;> omega
  have go : ∀ (l : List Nat) (acc : Array Nat), (∀ c ∈ l, c < 0x110000) → (∀ c ∈ acc.toList, c < 0x110000) → ∀ c ∈ (l.foldl (fun out c => out ++ (reprChar (reprQuote x) c).toArray) acc).toList, c < 0x110000 := by
    intro l
    induction l with
    | nil => exact fun acc _ ha => ha
    | cons d r ih =>
      intro acc hl ha
      rw [List.foldl_cons]
      refine ih _ (fun c hc => hl c (List.mem_cons_of_mem _ hc)) fun c hc => ?_
      rw [Array.toList_append] at hc
      rcases List.mem_append.mp hc with hc | hc
      · exact ha c hc
      · exact reprChar_lt (hl d List.mem_cons_self) c (by simpa using hc)
  intro c hc
  unfold reprText at hc
  rw [Array.toList_push] at hc
  rcases List.mem_append.mp hc with hc | hc
  · rw [← Array.foldl_toList] at hc
    exact go _ _ h (fun c hc => by simp only [List.mem_cons, List.not_mem_nil, or_false] at hc; rw [hc]; exact hq) c hc
  · simp only [List.mem_cons, List.not_mem_nil, or_false] at hc
    rw [hc]
    exact hq
theorem uok_from : ∀ (ts : List Str) (k : Nat) (acc : Str), (∀ t ∈ ts, Uok t) → Uok acc → Uok (textFrom k acc ts)
  | [], _, acc, _, ha => ha
  | t :: ts, k, acc, h, ha => by
    show Uok (textFrom (k + 1) (acc ++ (if k > 0 then ", " else "" : String) ++ t) ts)
    exact uok_from ts _ _ (fun u hu => h u (List.mem_cons_of_mem _ hu)) ((ha.app (Uok.of _)).app (h t List.mem_cons_self))
mutual
theorem uok_shown : ∀ d : PyData, d.canLay0 = true → d.hasDict = false → Uok d.shown
  | .none, _, _ => by simp only [PyData.shown]; exact Uok.of _
  | .bool b, _, _ => by simp only [PyData.shown]; split <;> exact Uok.of _
  | .int i, _, _ => by simp only [PyData.shown]; exact Uok.of _
  | .str x, h, _ => by
    simp only [PyData.shown]
    refine uok_repr fun c hc => ?_
    simp only [PyData.canLay0, PyData.strOk, Array.all_eq_true', decide_eq_true_eq] at h
    exact h c (by simpa using hc)
  | .list ds, h, k => by
    simp only [PyData.shown]
    simp only [PyData.canLay0] at h
    simp only [PyData.hasDict] at k
    exact (uok_from _ 0 _ (uok_shownAll ds h k) (Uok.of _)).app (Uok.of _)
  | .tuple ds, h, k => by
    simp only [PyData.shown]
    simp only [PyData.canLay0] at h
    simp only [PyData.hasDict] at k
    exact ((Uok.of _).app (Uok.join (Uok.of _) (uok_shownAll ds h k))).app (Uok.of _)
  | .dict kvs, _, k => by simp [PyData.hasDict] at k
theorem uok_shownAll : ∀ ds : List PyData, PyData.canLayAll0 ds = true → PyData.hasDictAll ds = false → ∀ t ∈ PyData.shownAll ds, Uok t
  | [], _, _ => fun t ht => by simp [PyData.shownAll] at ht
  | d :: ds, h, k => fun t ht => by
    simp only [PyData.canLayAll0, Bool.and_eq_true] at h
    simp only [PyData.hasDictAll, Bool.or_eq_false_iff] at k
    simp only [PyData.shownAll, List.mem_cons] at ht
    rcases ht with rfl | ht
    · exact uok_shown d h.1 k.1
    · exact uok_shownAll ds h.2 k.2 t ht
end
theorem strOk_of {x : Str} (h : Uok x) : PyData.strOk x = true := by
  unfold PyData.strOk
  rw [Array.all_eq_true']
  exact fun c hc => decide_eq_true (h c (by simpa using hc))
theorem strOk_shown {d : PyData} (h : d.canLay0 = true) (k : d.hasDict = false) : PyData.strOk d.shown = true := strOk_of (uok_shown d h k)
/-- a list of data, by its parts -/
theorem sh_lst {ds : List PyData} (h : PyData.canLayAll0 ds = true) (k : (PyData.list ds).depth ≤ 64) : SeqAt.shaped (.list ds) = true := by
  unfold SeqAt.shaped
  simp only [PyData.canLay0]
  rw [h, decide_eq_true k]
  rfl
end RL

set_option maxHeartbeats 1000000
/-! Pairs of exceptions, made by position and by name. -/
namespace RL
open PySem L2
/-- __init__(self, f): the base's __init__, then self.f = f -/
def spI (K : PySem.W.Frag) (f : Str) : Sp := fun vs H Q _ => ∃ (a C : Addr) (y : V), vs = [.ref a, y] ∧ XC K C ∧ PySem.W.findIn K (.ref C) f = some none ∧ H a = some (exo a C none) ∧
  ∀ dx, H dx = none → dx ≠ a → Q .non (upd (upd H dx (exd dx [(f, y)])) a (exo a C (some dx)))
def spN : Sp := fun vs H Q _ => ∃ v : V, vs = [v] ∧ Q .non H
/-- at a: an exception of the class at C whose f is y -/
def Xv (H : Hp) (a C : Addr) (f : Str) (y : V) : Prop := ∃ dx : Addr, H a = some (exo a C (some dx)) ∧ H dx = some (exd dx [(f, y)])
theorem Xv.same {H H' : Hp} {a C : Addr} {f : Str} {y : V} (h : Xv H a C f y) (s : Same H H') : Xv H' a C f y := by
  obtain ⟨dx, h1, h2⟩ := h
  exact ⟨dx, s _ _ h1, s _ _ h2⟩
/-- v: a list of two such exceptions -/
def Pr (H : Hp) (v : V) (C : Addr) (f : Str) (y : V) : Prop := ∃ l a b : Addr, v = .ref l ∧ H l = some (.lst [.ref a, .ref b]) ∧ Xv H a C f y ∧ Xv H b C f y
theorem Pr.same {H H' : Hp} {v : V} {C : Addr} {f : Str} {y : V} (h : Pr H v C f y) (s : Same H H') : Pr H' v C f y := by
  obtain ⟨l, a, b, e, h1, h2, h3⟩ := h
  exact ⟨l, a, b, e, s _ _ h1, h2.same s, h3.same s⟩
theorem new_upd {H : Hp} {p : Addr} {o : HO} (h : H p = none) : Same H (upd H p o) := fun b x e => by
  rw [upd_ne (ne_of_none e h)]
  exact e
theorem xv_new {H : Hp} {a dx C : Addr} {f : Str} {y : V} (na : H a = none) (nd : H dx = none) (ne : dx ≠ a) : Same H (upd (upd (upd H a (exo a C none)) dx (exd dx [(f, y)])) a (exo a C (some dx))) ∧ Xv (upd (upd (upd H a (exo a C none)) dx (exd dx [(f, y)])) a (exo a C (some dx))) a C f y := by
  refine ⟨fun b o e => ?_, dx, upd_same, ?_⟩
  · rw [upd_ne (ne_of_none e na), upd_ne (ne_of_none e nd), upd_ne (ne_of_none e na)]
    exact e
  · rw [upd_ne ne, upd_same]
def tPair (C : Addr) (f : Str) (i : Nat) : TE := fun σ H Q => ∃ y, σ[i]? = some (some y) ∧ ∀ v H', Same H H' → Pr H' v C f y → (∀ l, v = .ref l → H l = none) → Q v H'
section
variable {X : Cx} {e1 e2 : Expr} {x : Str} {p1 p2 p3 p4 p5 pos : Pos} {nm : Option Str} {kpos : Pos} {i : Nat}
theorem xmk_one {K : PySem.W.Frag} {a C : Addr} {f : Str} {y : V} {H : Hp} {R : Hp → Prop} (T : XC K C) (hno : PySem.W.findIn K (.ref C) f = some none) (na : H a = none) (h : ∀ H', Same H H' → Xv H' a C f y → R H') :
    spI K f [.ref a, y] (upd H a (exo a C none)) (fun v H3 => v = .non ∧ R H3) E0 := by
  refine ⟨a, C, y, rfl, T, hno, upd_same, fun dx nd ne => ⟨rfl, ?_⟩⟩
  rw [upd_ne ne] at nd
  obtain ⟨s1, x1⟩ := xv_new (C := C) (f := f) (y := y) na nd ne
  exact h _ s1 x1
theorem pe_pair {C : Addr} {k : Nat} {f : Str} (M : XM X.prog X.w X.K X.mg X.base k C ["self", f] (spI X.K f)) (hno : PySem.W.findIn X.K (.ref C) f = some none) (hr : Room (k + 1) X.A) (hg : Gl X x) (hm : X.mg x = some (.ref C))
    (h1 : PE X e1 (tVar i)) (h2 : PE X e2 (tVar i)) (hs : starEach [.Call (.Name x p1) [e1] [] p2, .Call (.Name x p3) [] [⟨nm, e2, kpos⟩] p4] X.env = (false, eval (.Call (.Name x p1) [e1] [] p2) X.env) :: starEach [.Call (.Name x p3) [] [⟨nm, e2, kpos⟩] p4] X.env := by rfl)
    (hs2 : starEach [.Call (.Name x p3) [] [⟨nm, e2, kpos⟩] p4] X.env = (false, eval (.Call (.Name x p3) [] [⟨nm, e2, kpos⟩] p4) X.env) :: starEach [] X.env := by rfl) (hs1 : starEach [e1] X.env = (false, eval e1 X.env) :: starEach [] X.env := by rfl) (hdb : (x == ("__debug__" : Str)) = false := by decide)
    (hks : (backToKw p4 (keywordEach [⟨nm, e2, kpos⟩] X.env)).filterMap (·.1) = [f] := by rfl) (hall : (backToKw p4 (keywordEach [⟨nm, e2, kpos⟩] X.env)).all (·.1.isSome) = true := by rfl) (hpl : ((backTo p4 (starEach [] X.env)).any (·.1) || (backToKw p4 (keywordEach [⟨nm, e2, kpos⟩] X.env)).any (·.1.isNone)) = false := by rfl) :
    PE X (.List [.Call (.Name x p1) [e1] [] p2, .Call (.Name x p3) [] [⟨nm, e2, kpos⟩] p4] pos) (tPair C f i) := by
  have hp := pe_lst (pos := pos) (pa_cons (pe_xmk (p := p1) (pos := p2) M hr hg hm (pa_cons h1 pa_nil hs1) rfl (Nat.succ_le_of_lt (by decide : 0 < 1000)) hdb hs1 rfl) (pa_cons (pe_xmkK (p := p3) (pos := p4) M hr hg hm (pk_cons (nm := nm) (kpos := kpos) h2 pk_nil) hall hks hdb hpl) pa_nil hs2) hs)
  refine ⟨fun pins s σ H Q I h => hp.run pins s σ H Q I ?_⟩
  obtain ⟨y, ey, q⟩ := h
  refine ⟨y, ey, rfl, rfl, fun a na => xmk_one M.xc hno na fun H1 s1 x1 => ?_⟩
  refine ⟨y, ey, rfl, rfl, fun b nb => xmk_one M.xc hno nb fun H2 s2 x2 => ?_⟩
  refine ⟨(by show 2 ≤ sizeLine; decide), fun l nl => ?_⟩
  have s3 := new_upd (o := .lst [.ref a, .ref b]) nl
  exact q _ _ ((s1.trans s2).trans s3) ⟨l, a, b, rfl, upd_same, (x1.same s2).same s3, x2.same s3⟩ (fun l' e => by cases e; exact (s1.trans s2).free nl)
/-- C() -/
def tMk0 (C : Addr) : TE := fun _ H Q => ∀ a, H a = none → Q (.ref a) (upd H a (exo a C none))
theorem pe_mk0 {C : Addr} {k : Nat} {y : Str} (M : XM X.prog X.w X.K X.mg X.base k C [y] spN) (hr : Room (k + 1) X.A) (hg : Gl X x) (hm : X.mg x = some (.ref C)) (hdb : (x == ("__debug__" : Str)) = false := by decide) : PE X (.Call (.Name x p1) [] [] p2) (tMk0 C) := by
  have hp := pe_xmk0 (p := p1) (pos := p2) M hr hg hm hdb
  exact ⟨fun pins s σ H Q I h => hp.run pins s σ H Q I ⟨rfl, rfl, fun a na => ⟨.ref a, rfl, rfl, h a na⟩⟩⟩
end
section
variable {X : Cx} {K : PySem.W.Frag} {e : Expr} {te : TE} {pos : Pos} {n : Str}
theorem pe_xfdK (he : PE X e te) (hK : X.K = K := by rfl) (hb : attributeBase e n X.env (eval e X.env) = eval e X.env := by rfl) : PE X (.Attribute e n pos) (tXfd K n te) := by
  subst hK
  exact pe_xfd he hb
theorem cr_rpK (hG : X.A.guards = some []) (hu : X.A.units + 64 < cLine) (hK : X.K = K := by rfl) : CallR X (.builtin "repr") (rRp K) := by
  subst hK
  exact cr_rp hG hu
end
/-- for i, x in enumerate(l) -/
theorem for_enum {K : PySem.W.Frag} {a : Addr} {xs : List V} {g : TG} {tb : TS} {D : Ends} {σ : L2.St} {H : Hp} (Pv : Nat → L2.St → Hp → Prop) (h0 : Pv 0 σ H) (hl : ∀ i σ H, i ≤ xs.length → Pv i σ H → SqL K H a xs)
    (hs : ∀ i x σ H T, xs[i]? = some x → Pv i σ H → H T = none → g (.ref T) σ (upd H T (.tup [.int (i : Nat), x])) fun σ2 H2 => tb { D with nx := Pv (i + 1), ct := Pv (i + 1), bk := D.nx } σ2 H2) (hd : ∀ σ H, Pv xs.length σ H → D.nx σ H) :
    ∃ W : Nat → Nat → L2.St → Hp → Prop, (∃ m, W 0 m σ H) ∧ ∀ i m σ H, W i m σ H →
      ((Ite K a).stop i H ∧ D.nx σ H) ∨ ((Ite K a).go i H ∧ ∃ N : L2.St → Hp → Prop, (∀ σ' H', N σ' H' → ∃ m', m' < m ∧ W (i + 1) m' σ' H') ∧ ∀ x H', (Ite K a).yld i H x H' → g x σ H' fun σ2 H2 => tb { D with nx := N, ct := N, bk := D.nx } σ2 H2) := by
  refine ⟨fun i m σ H => m = xs.length - i ∧ i ≤ xs.length ∧ Pv i σ H, ⟨xs.length, by simp, Nat.zero_le _, h0⟩, ?_⟩
  rintro i m σ H ⟨rfl, hi, p⟩
  have q := hl i σ H hi p
  by_cases hlt : i < xs.length
  · refine .inr ⟨⟨xs, xs[i], q, by simp [hlt]⟩, Pv (i + 1), fun σ' H' p' => ⟨xs.length - (i + 1), by omega, rfl, hlt, p'⟩, fun x H' y => ?_⟩
    obtain ⟨T, z, rfl, nT, rfl, ez⟩ := y
    exact hs i z σ H T (ez xs q) p nT
  · have e : i = xs.length := by omega
    rw [e] at p ⊢
    exact .inl ⟨⟨xs, q, Nat.le_refl _⟩, hd σ H p⟩
end RL

set_option maxHeartbeats 2000000
/-! try: .. except (A, B, C) as e: .. where the suite calls defs that ask e and make lists. -/
namespace RL
open PySem L2 PySem.Spec PyProof.Rows
/-! ### the clause -/
theorem fly_keeps {B : Heap} {l : List Env} {a : Addr} {Z : Obj → Prop} {h h' : Heap} (fl : HandSPX.FlyingZ B l a Z h) (k : ∀ b o, h.get? b = some o → h'.get? b = some o) : HandSPX.FlyingZ B l a Z h' := by
  obtain ⟨g1, g2, g3, oe, vs, T, oT, ts, he, hz, hd, h1, hnT, hTe, hT, hdT, h3⟩ := fl
  exact ⟨fun b o e => k b o (g1 b o e), g2, g3.of_keeps fun b o e _ => ⟨o, k b o e, rfl⟩, oe, vs, T, oT, ts, k _ _ he, hz, hd, h1, hnT, hTe, k _ _ hT, hdT, h3⟩
/-- what the clause wishes of an exception of the body; it is always taken -/
def wAs3 (K : PySem.W.Frag) (cs : List Value) (i : Nat) (ts : Addr → Value → Option Addr → TS) (D : Ends) : WX := fun cls d σ H => PySem.W.exmAny K cls cs = some true ∧
  ∀ a, H a = none → ts a cls d { nx := fun σ' H' => D.nx (σ'.set i none) H', rt := D.rt, bk := fun σ' H' => D.bk (σ'.set i none) H', ct := fun σ' H' => D.ct (σ'.set i none) H' } (σ.set i (some (.ref a))) H
section
variable {X : Cx} {x1 x2 x3 n : Str} {c1 c2 c3 : Value} {i kk : Nat} {body suite : List Stmt} {b₀ : Stmt} {p1 p2 p3 tpos pos pos' : Pos} {tb : WX → TS} {ts : Addr → Value → Option Addr → TS}
theorem ps_try_as3 (hs : X.stack = X.env :: X.outer) (hf : X.env.frame = some X.env.locals) (hN : X.N.Nodup) (hi : X.N[i]? = some n) (hln : X.env.kindOf n = some .local) (n1 : Names X x1 c1) (n2 : Names X x2 c2) (n3 : Names X x3 c3)
    (hb : ∀ (W : WX) (pn : List (Addr × Obj)) (xe : Value → Shared → Prop), L2N.Takes (X.tr pn xe) W → PassesOwn (model X.prog X.w) X.A X.env xe → PSs (X.tr pn xe) body (tb W))
    (hsu : ∀ (a : Addr) (oe : Obj) (cls : Value) (d : Option Addr) (pn : List (Addr × Obj)), L2N.Zn cls d oe → (∃ vs, oe.data = .fields vs) → PSs (X.suite a ((a, oe) :: pn)) (b₀ :: suite) (ts a cls d)) :
    PS X (.Try body [.ExceptHandler (some (.Tuple [.Name x1 p1, .Name x2 p2, .Name x3 p3] kk tpos)) (some n) (b₀ :: suite) pos'] [] [] pos) (fun D σ H => tb (wAs3 X.K [c1, c2, c3] i ts D) D σ H) := by
  refine ⟨fun pins s σ H D I h => ?_⟩
  have ok := I.ok
  have hfr : X.A.frames = some (X.env :: X.outer) := by rw [ok.frames, hs]
  refine wpAny_Try_except (wpAny_mono ((hb (wAs3 X.K [c1, c2, c3] i ts D) (X.pn ++ pins) (fun e s₁ => wpAny (model X.prog X.w) X.A (noteFrame e X.env) (fun _ s₂ => wpAny (model X.prog X.w) X.A (setFlight e none) (fun _ s₃ =>
    wpAny (model X.prog X.w) X.A (handleBy e X.env [.ExceptHandler (some (.Tuple [.Name x1 p1, .Name x2 p2, .Name x3 p3] kk tpos)) (some n) (b₀ :: suite) pos']) (SP X pins D) X.xe s₃) X.xe s₂) X.xe s₁) (fun u s' xx => ?_) PassesOwn.looking).run [] s σ H D (I.toTry _) h) (fun f s1 hsp => ?_) (fun e s1 he => he))
  · obtain ⟨a, B, sI, pins', σ', H', cls, d, rfl, J', nb, up, sky, na, os, ag, hb1, hyes⟩ := xx
    have J : Inv X pins σ' H' sI := J'.ofTry ok
    rw [show (X.tr (X.pn ++ pins) _).stack = X.env :: X.outer from hs] at sky
    show wpAny (model X.prog X.w) X.A (noteFrame (.ref a) X.env) _ _ _
    refine L2N.Sky.land L2N.Zn.steady hfr hf sky fun h3 fl3 up3 => ?_
    have J3 : Inv X pins σ' H' { s' with heap := h3 } := J.landed nb fl3.1 (up.trans up3) os ag
    obtain ⟨oe3, vs3, he3, hz3, hd3⟩ := fl3.there
    have nfr : a ∉ frs (X.env :: X.outer) := fun hm => by
      obtain ⟨_, o', e', hnf⟩ := fl3.2.2.1.mem hm
      rw [he3] at e'
      cases e'
      exact hnf _ hd3
    have nL : a ≠ X.env.locals := fun z => nfr (List.mem_filterMap.mpr ⟨X.env, List.mem_cons_self, by rw [hf, z]⟩)
    have nF : a ∉ X.fs := fun hm => by
      obtain ⟨e, he, q⟩ := List.mem_filterMap.mp hm
      exact nfr (List.mem_filterMap.mpr ⟨e, List.mem_cons_of_mem _ he, q⟩)
    have S3 := J3.suite he3 hd3 na nL nF
    have look : ∀ {y : Str} {c : Value} {py : Pos} {Q : Value → Shared → Prop} {E : Value → Shared → Prop}, Names X y c → Q c { s' with heap := h3 } → wpAny (model X.prog X.w) (X.A.mark (some (.ref a))) (eval (.Name y py) X.env) Q E { s' with heap := h3 } := fun {y c py Q E} hc q => by
      obtain ⟨hg, hdbg, hm | ⟨hm, hv, hnn⟩⟩ := hc
      · exact ld_glob (X := X.suite a ((a, oe3) :: (X.pn ++ pins))) S3 hg hm q hdbg
      · exact ld_blt (X := X.suite a ((a, oe3) :: (X.pn ++ pins))) S3 hg hm hv q hnn hdbg
    refine wpAny_handleBy_cons (codeAny_handlers_test ?_) (by intro q; cases q)
    refine wpAny_Tuple (wpAny_items_cons (look n1 (wpAny_items_cons (look n2 (wpAny_items_cons (look n3 (wpAny_items_nil ⟨by size_fits, ?_⟩)))))))
    have kp : ∀ q o, h3.get? q = some o → (h3.push { cls := .type "tuple", data := .seq [c1, c2, c3].toArray }).get? q = some o := fun _ _ z => Heap.get?_push_of_some _ z
    have LT : PySem.W.Looks (model X.prog X.w) h3 (typeOf (.ref a)) cls := fun A Q E s k q => wpAny_typeOf_ref (k _ _ he3) (by rw [hz3.1]; exact q)
    refine (PySem.W.exm_tup3 (M := model X.prog X.w) (J3.kIn.keeps kp) (LT.keeps kp) (Heap.get?_push_size h3 rfl) hb1).here ?_
    refine codeAny_handlers_suite_as ?_
    refine HandSPX.lands_againZ (fly_keeps fl3 kp) fun h4 fl4 up4 => ?_
    have J4 : Inv X pins σ' H' { s' with heap := h4 } := J.landed nb fl4.1 ((up.trans up3).trans ((Heap.UpToSlots.of_keeps kp).trans up4)) os ag
    obtain ⟨oe4, vs4, he4, hz4, hd4⟩ := fl4.there
    have S4 := J4.suite he4 hd4 na nL nF
    refine store_ok (X := X.suite a ((a, oe4) :: (X.pn ++ pins))) (v := .ref a) S4 hN hi (.inl hln) rfl (fun s5 S5 => ?_) (.inr hln)
    refine wpAny_mono ((hsu a oe4 cls d (X.pn ++ pins) hz4 ⟨_, hd4⟩).run [] s5 _ H' _ S5 (hyes a na)) (fun f s6 hsp => ?_) (fun _ _ z => False.elim z)
    have fin : ∀ {σ6 : L2.St} {H6 : Hp} {Q : Shared → Prop}, Inv (X.suite a ((a, oe4) :: (X.pn ++ pins))) [] σ6 H6 s6 → (∀ s7, Inv X pins (σ6.set i none) H6 s7 → Q s7) →
        wpAny (model X.prog X.w) X.A (do bindName X.env n .none; unbindBehindTheSuite X.env n pos') (fun _ s7 => Q s7) X.xe s6 := fun {σ6 H6 Q} S6 hq => gone_ok (S6.unsuite ok) hN hi hln hq
    cases f with
    | next =>
      obtain ⟨σ6, H6, S6, q6⟩ := hsp
      exact fin S6 fun s7 J7 => ⟨_, _, J7, q6⟩
    | brk =>
      obtain ⟨σ6, H6, S6, q6⟩ := hsp
      exact fin S6 fun s7 J7 => ⟨_, _, J7, q6⟩
    | cont =>
      obtain ⟨σ6, H6, S6, q6⟩ := hsp
      exact fin S6 fun s7 J7 => ⟨_, _, J7, q6⟩
    | ret u =>
      obtain ⟨v6, σ6, H6, S6, r6, q6⟩ := hsp
      exact fin S6 fun s7 J7 => ⟨_, _, _, J7, r6, q6⟩
  · cases f with
    | next =>
      obtain ⟨σ', H', J', q⟩ := hsp
      exact wpAny_execs_nil ⟨σ', H', J'.ofTry ok, q⟩
    | brk =>
      obtain ⟨σ', H', J', q⟩ := hsp
      exact ⟨σ', H', J'.ofTry ok, q⟩
    | cont =>
      obtain ⟨σ', H', J', q⟩ := hsp
      exact ⟨σ', H', J'.ofTry ok, q⟩
    | ret u =>
      obtain ⟨v, σ', H', J', r, q⟩ := hsp
      exact ⟨v, σ', H', J'.ofTry ok, r, q⟩
end
/-! ### defs called in the suite -/
/-- the promise of a def called while the exception at p is handled; it may speak of p -/
structure FnE (P : Program) (w : World) (K : PySem.W.Frag) (mg : Str → Option Value) (base : Heap) (k : Nat) (f : Addr) (fd : FuncData) (ps : List Str) (sp : Addr × Obj → Sp) : Prop where
  len : ∀ p vs H Q E, sp p vs H Q E → vs.length = ps.length
  run : ∀ (A : Around) (outer : List Env) (s : Shared) (H : Hp) (args : Args) (us : List Value) (vs : List V) (Q : VK) (p : Addr × Obj), L2H.RoomH k A → L2H.Hot1 A p → L2H.PinOk outer H s p → Env0 P w K mg base A outer s H → BindsTo s fd args (ps.zip us) → Vals vs us → sp p vs H Q E0 →
    codeAny (model P w) A (.call (.ref f) args) (CR CX0 outer P w H s Q E0) s
section
variable {P : Program} {w : World} {K : PySem.W.Frag} {mg : Str → Option Value} {base : Heap}
theorem okE {x qual : Str} {st : Stmt} {f : Addr} {fd : FuncData} {N ps : List Str} {k : Nat} {sp : Addr × Obj → Sp} (F : Fun K x qual st f fd) (S : FnScope N ps (defScope st)) (len : ∀ p vs H Q E, sp p vs H Q E → vs.length = ps.length)
    (bd : ∀ (cdv : Value) (A : Around) (outer : List Env) (s : Shared) (H : Hp) (vs : List V) (Q : VK) (p : Addr × Obj), L2H.Hot1 A p → L2H.RoomH k (A.deeper (envOfC qual (defScope st) s.heap.objs.size f cdv)) → sp p vs H Q E0 →
      ∃ t, PSs (L2H.cxH CX0 P w K mg base N qual (defScope st) f cdv A outer s H E0 p) (defBody st) t ∧ t { nx := fun _ H' => Q .non H', rt := Q } (L2.start N vs) H) : FnE P w K mg base (k + 1) f fd ps sp := by
  obtain ⟨oc, od, kV, doc, pm, an, cdv, ct, osl, rfl, lk, hcd⟩ := F.ex
  refine ⟨len, fun A outer s H args us vs Q p hr hot hpin e0 hb r hsp => ?_⟩
  have KX : K.In s.heap := e0.mod.kin.keeps fun b o e => (e0.bs b o e).1
  have lim := e0.mod.nolimit.keeps fun b o e => (e0.bs b o e).1
  refine codeAny_call_function hr.depth (KX _ _ lk) rfl S.co S.gen rfl (PySem.W.codeRec_of KX hcd) (hb _ _ _ _ (wpAny_newFunctionEnv_cells S.kind (fun ⟨n, v⟩ hy => ?_) fun env he s1 x => ?_))
  · exact (S.par n (List.of_mem_zip hy).1).imp id fun q => ⟨q, PySem.W.cellsFrom_some _ _ _ (.inl q)⟩
  · subst he
    obtain ⟨t, ht, hq⟩ := bd cdv A outer s H vs Q p hot (hr.deeper _) hsp
    have I : Inv (L2H.cxH CX0 P w K mg base N qual (defScope st) f cdv A outer s H E0 p) [] (L2.start N vs) H s1 := L2H.inv_startH S hpin e0 (len _ _ _ _ _ hsp) r x
    refine ⟨lim.keeps x.toInCall.keep, codeAny_func (wpAny_mono (ht.run [] s1 _ H _ I hq) (fun fl s' hs => ?_) fun _ _ z => z)⟩
    cases fl with
    | ret u =>
      obtain ⟨v, σ', H', J, rv, q⟩ := hs
      exact ⟨v, H', J.os, J.bare, J.base, J.hok, rv, q⟩
    | next =>
      obtain ⟨σ', H', J, q⟩ := hs
      exact ⟨V.non, H', J.os, J.bare, J.base, J.hok, rfl, q⟩
    | brk => exact hs.elim fun _ z => z.elim fun _ y => False.elim y.2
    | cont => exact hs.elim fun _ z => z.elim fun _ y => False.elim y.2
end
structure DfE (P : Program) (w : World) (K : PySem.W.Frag) (mg : Str → Option Value) (base : Heap) (k : Nat) (x : Str) (ps : List Str) (sp : Addr × Obj → Sp) : Prop where
  ex : ∃ (f : Addr) (fd : FuncData), FnE P w K mg base k f fd ps sp ∧ mg x = some (.ref f) ∧ PySem.W.keepIn K (.ref f) = true ∧ Binds K fd ps []
section
variable {X : Cx} {k : Nat} {ps : List Str} {sp : Addr × Obj → Sp} {x : Str} {q pos : Pos} {e : Expr} {es : List Expr} {t : TA} {p : Addr × Obj}
theorem pe_dfE (D : DfE X.prog X.w X.K X.mg X.base k x ps sp) (hr : L2H.RoomH k X.A) (hot : L2H.Hot1 X.A p) (hp : p ∈ X.pn) (hg : Gl X x)
    (ha : PA X (e :: es) t) (hdb : (x == ("__debug__" : Str)) = false := by decide) (he : starEach (e :: es) X.env = (false, eval e X.env) :: starEach es X.env := by rfl) (hpl : (backTo pos (starEach es X.env)).any (·.1) = false := by rfl) :
    PE X (.Call (.Name x q) (e :: es) [] pos) (fun σ H Q => t σ H fun vs H1 => sp p vs H1 Q E0) := by
  obtain ⟨f, fd, F, hm, hk, hb⟩ := D.ex
  refine ⟨fun pins s σ H Q I h => wpAny_Call_Name_kw (ld_glob I hg hm (PySem.W.callWith_K (h₀ := X.base) I.ok.mod.kin hk (thn (ha.run pos pins s σ H _ I h) fun us s1 ⟨vs, H1, I1, r, q0⟩ => ⟨I1.kIn, ?_⟩) he hpl) hdb)⟩
  have hl : us.length = ps.length := by
    rw [← r.length]
    exact F.len _ _ _ _ _ q0
  have hbb := hb s1 us I1.kIn (by rw [List.append_nil]; exact hl)
  rw [List.append_nil] at hbb
  have P1 := I1.pin p (List.mem_append_left _ hp)
  have hpin : L2H.PinOk X.stack H1 s1 p := ⟨P1.1, P1.2.1, fun hm => (List.mem_cons.mp (I1.stkSub p.1 hm)).elim P1.2.2.1 P1.2.2.2.1, P1.2.2.2.2⟩
  refine wpAny_call (codeAny_mono (F.run X.A X.stack s1 H1 ⟨us, []⟩ us vs Q p hr hot hpin I1.env0 hbb r q0) fun z s' hq => ?_)
  cases z with
  | error e => exact hq.elim
  | ok fl =>
    cases fl with
    | ret u => exact I1.after hq
    | next => exact hq.elim
    | brk => exact hq.elim
    | cont => exact hq.elim
end
/-! ### the exception asked -/
/-- p: an exception of the class at C -/
def Px (p : Addr × Obj) (C : Addr) (H : Hp) : Prop := p.2.cls = .ref C ∧ (∃ vs, p.2.data = .fields vs) ∧ (p.2.dict = none ∨ ∃ (d : Addr) (fs : List (Str × V)), p.2.dict = some d ∧ H d = some (.xd fs))
theorem Px.same {p : Addr × Obj} {C : Addr} {H H' : Hp} (h : Px p C H) (s : Same H H') : Px p C H' := ⟨h.1, h.2.1, h.2.2.imp id fun ⟨d, fs, a, b⟩ => ⟨d, fs, a, s _ _ b⟩⟩
def rIsP (K : PySem.W.Frag) (p : Addr × Obj) : List V → Hp → VK → Prop := fun xs H Q => ∃ (C : Addr) (c : V) (u : Value) (b : Bool), xs = [.ref p.1, c] ∧ ClsV c u ∧ XC K C ∧ Px p C H ∧ PySem.W.kitOne K (.ref C) u = some b ∧ Q (.bl b) H
theorem call_isP {X : Cx} {p : Addr × Obj} (Z : XK0 X.K) (hp : p ∈ X.pn) : CallR X (.builtin "isinstance") (rIsP X.K p) := by
  intro pins s σ H xs us Q I r h
  obtain ⟨C, c, u, b, rfl, kc, T, ⟨hc, ⟨vs, hd⟩, hx⟩, e, q⟩ := h
  obtain ⟨u1, u2, rfl, r1, r2⟩ := vals2 r
  have e2 := kc.eq r2
  subst e2
  cases (show u1 = Value.ref p.1 from r1)
  obtain ⟨hget, _⟩ := I.pin p (List.mem_append_left _ hp)
  have nc : PySem.W.notCls p.2 = true := by unfold PySem.W.notCls; rw [hd] <;> rfl
  have key : ∃ od, PySem.W.InstAt s.heap p.1 p.2 C od := by
    rcases hx with hx | ⟨dx, fs, hx, hf⟩
    · exact ⟨none, hget, hc, nc, by rw [hx]; trivial⟩
    · obtain ⟨mA, ⟨od, es, ep, hod, _⟩, _⟩ := (show ObjOk X.prog X.w H s.heap dx (.xd fs) from I.hok dx _ hf)
      exact ⟨some od, hget, hc, nc, by rw [hx]; exact hod⟩
  obtain ⟨od, J⟩ := key
  exact PySem.W.kia_one (PySem.W.kitx_exc (ox := p.2) (od := od) T.cl T.ga T.gg T.sub T.ca Z.cn Z.ct T.mo) I.kIn J e (fun z => nomatch z) fun tk => ⟨.bl b, H, I.tok tk, rfl, q⟩
/-- e.f in the suite -/
def tPfd (K : PySem.W.Frag) (p : Addr × Obj) (f : Str) (te : TE) : TE := fun σ H Q => te σ H fun x H1 => ∃ (C dx : Addr) (fs : List (Str × V)) (v : V), x = .ref p.1 ∧ XC K C ∧ PySem.W.findIn K (.ref C) f = some none ∧ p.2.cls = .ref C ∧ (∃ vs, p.2.data = .fields vs) ∧ p.2.dict = some dx ∧ H1 dx = some (.xd fs) ∧ fs.lookup f = some v ∧ Q v H1
theorem pe_pfd {X : Cx} {p : Addr × Obj} {e : Expr} {te : TE} {pos : Pos} {n : Str} (hp : p ∈ X.pn) (he : PE X e te) (hb : attributeBase e n X.env (eval e X.env) = eval e X.env := by rfl) : PE X (.Attribute e n pos) (tPfd X.K p n te) := by
  refine ⟨fun pins s σ H Q I h => attr_of hb (thn (he.run pins s σ H _ I h) fun u s1 ⟨x, H1, I1, rx, C, dx, fs, v, ex, T, hno, hc, ⟨vs, hd⟩, ed, ea, l, q⟩ => ?_)⟩
  subst ex
  cases (show u = Value.ref p.1 from rx)
  obtain ⟨hget, _⟩ := I1.pin p (List.mem_append_left _ hp)
  obtain ⟨mA, hns, hr⟩ := (show ObjOk X.prog X.w H1 s1.heap dx (.xd fs) from I1.hok dx _ ea)
  obtain ⟨od, hod, hl⟩ := lookIn_ns hns
  obtain ⟨u, hu, ru⟩ := RelO.some_of (v := v) (o := mA n) (by rw [← l]; exact hr n)
  have nc : PySem.W.notCls p.2 = true := by unfold PySem.W.notCls; rw [hd] <;> rfl
  have J : PySem.W.InstAt s1.heap p.1 p.2 C (some od) := ⟨hget, hc, nc, by rw [ed]; exact hod⟩
  exact HandSPX.exc_get I1.kIn J T.ga T.gg T.sub (PySem.W.findObj_own T.hd hno rfl (by rw [hl, hu])) (handed_of ru) ⟨v, H1, I1.tok _, ru, q⟩
theorem pe_pfdK {X : Cx} {K : PySem.W.Frag} {p : Addr × Obj} {e : Expr} {te : TE} {pos : Pos} {n : Str} (hp : p ∈ X.pn) (he : PE X e te) (hK : X.K = K := by rfl) (hb : attributeBase e n X.env (eval e X.env) = eval e X.env := by rfl) : PE X (.Attribute e n pos) (tPfd K p n te) := by
  subst hK
  exact pe_pfd hp he hb
end RL

set_option maxHeartbeats 2000000
/-! [.. for x in range(..) if ..] where an exception is handled. -/
namespace RL
open PySem L2 PySem.Spec PyProof.Rows
/-- a comprehension's block there: it bears the handled exception -/
abbrev blkP (X : Cx) (p : Addr × Obj) (s : Shared) (H : Hp) (scope : Scope) (cenv : Env) (fp : List Addr) : Cx := (X.blk s H scope cenv fp).tr [p] fun _ _ => False
theorem pnB {X : Cx} {p : Addr × Obj} {s : Shared} {H : Hp} {scope : Scope} {cenv : Env} {fp : List Addr} : p ∈ (blkP X p s H scope cenv fp).pn := List.mem_cons_self
section
variable {X : Cx}
theorem lc_hot {pins : List (Addr × Obj)} {s : Shared} {σ : L2.St} {H : Hp} {Q : VK} {elt tg iter : Expr} {ifs : List Expr} {scope : Scope} {own : List (Str × Nat)} {pos pos' : Pos} {wi : TI} {g : TG} {tt : TT} {te : TE} {use : Option (Value → Sem Unit)} {Qf : Value → Shared → Prop} {p : Addr × Obj}
    (hot : L2H.Hot1 X.A p) (hp : p ∈ X.pn) (hN : X.N.Nodup) (I : Inv X pins σ H s) (hi : L2H.PIH X tg iter wi) (ok : BlkOk X.N X.env.scope scope own)
    (hg : ∀ (s : Shared) (H : Hp) (C : Addr) (cl : List (Str × Addr)) (fp : List Addr), PG (blkP X p s H scope (compEnvC scope cl C X.env) fp) tg g) (ht : ∀ (s : Shared) (H : Hp) (C : Addr) (cl : List (Str × Addr)) (fp : List Addr), PTs (blkP X p s H scope (compEnvC scope cl C X.env) fp) ifs tt)
    (he : ∀ (s : Shared) (H : Hp) (C : Addr) (cl : List (Str × Addr)) (fp : List Addr), PE (blkP X p s H scope (compEnvC scope cl C X.env) fp) elt te) (hs : ∀ x, foldedSetIterable iter X.env x = pure x)
    (h : tLc wi g tt te (own.map (·.2)) σ H Q)
    (hRR : ∀ D C s' m H', Inv X pins σ H' s' → Q (.ref D) H' → s'.heap.Ns C m → FpOk X pins H' C → compPost (model X.prog X.w) X.A X.xe use Qf (.ref D) C (.ok .next) s') :
    wpAny (model X.prog X.w) X.A (comprehension (.ListComp elt [⟨tg, iter, ifs, 0⟩] scope pos) scope X.env pos' (newList []) false (eval iter X.env) use) Qf X.xe s := by
  have hfree : ∀ y ∈ scope.names, y.2 = .free → ∃ c, X.env.cells.lookup y.1 = some c := fun y hy e => (ok.free y hy e).elim (fun k => I.ok.has _ (.inl k)) fun k => I.ok.has _ (.inr k)
  refine wpAny_comprehension_free (use := use) rfl hs (closure_ok hfree) ok.kind (fun y hy e => by rw [ok.uniq y hy, e]) (thn (hi.run pins s σ H _ I h) fun xv s1 hx => thn hx fun itv s2 h2 => ?_)
  obtain ⟨it, fp, tn, J, H2, e, I2, T, st2, f2, q⟩ := h2
  subst e
  refine wpAny_newObj_type (newEnv_comp ?_) (by show 0 ≤ sizeLine; decide)
  generalize hD : s2.heap.objs.size = D
  obtain ⟨W, ⟨m0, w0⟩, turn⟩ := q D (I2.hok.fresh (Nat.le_of_eq hD))
  generalize hs3 : ({ s2 with heap := s2.heap.push { cls := .type "list", data := .seq ([] : List Value).toArray } } : Shared) = s3
  have I3 : Inv X pins σ (upd H2 D (.lst [])) s3 := by
    rw [← hs3]
    refine I2.laid (t' := s2.toks) (fun b o e => Heap.get?_push_of_some _ e) (Nat.le_of_eq hD) ⟨Nat.zero_le _, [], 0, .nil, ?_⟩
    rw [← hD]
    exact Heap.get?_push_size _ rfl
  have h3 : s3.heap = s2.heap.push { cls := .type "list", data := .seq ([] : List Value).toArray } := by rw [← hs3]
  have f3 : ∀ b ∈ fp, FpOk X pins (upd H2 D (.lst [])) b ∧ b < s3.heap.objs.size := fun b hb => by
    obtain ⟨o, e, _⟩ := T.obj _ _ st2 b hb
    have hlt := Heap.lt_size e
    refine ⟨⟨?_, (f2 b hb).2⟩, by rw [h3, Heap.size_push]; exact Nat.lt_succ_of_lt hlt⟩
    rw [upd_ne (by rw [← hD]; exact Nat.ne_of_lt hlt)]
    exact (f2 b hb).1
  have st3 : tn 0 s3.heap := T.keep _ _ _ st2 fun b _ o e => by rw [h3]; exact Heap.get?_push_of_some _ e
  have I4' := block_start I3 ok hN f3
  -- the handled exception stays out of the block's reach
  have P3 := I3.pin p (List.mem_append_left _ hp)
  have nst : p.1 ∉ frs X.stack := fun hm => (List.mem_cons.mp (I3.stkSub p.1 hm)).elim P3.2.2.1 P3.2.2.2.1
  have kp4 : ∀ b o, s3.heap.get? b = some o → (pushCells (s3.heap.push { cls := .type "dict", data := .dict #[] }) scope.names).get? b = some o := fun b o e => pushCells_keeps _ _ _ _ (Heap.get?_push_of_some _ e)
  have I4 : Inv (blkP X p s3 (upd H2 D (.lst [])) scope (compEnvC scope (cellsFrom (s3.heap.objs.size + 1) scope.names (cloFrom X.env.cells scope.names [])) s3.heap.objs.size X.env) fp) [] (wipe σ (own.map (·.2))) (upd H2 D (.lst [])) { s3 with heap := pushCells (s3.heap.push { cls := .type "dict", data := .dict #[] }) scope.names } := by
    refine (I4'.pins_of (pins' := [p]) fun r hr => ?_).toTry _
    obtain rfl : r = p := by simpa using hr
    exact ⟨kp4 _ _ P3.1, P3.2.1, Nat.ne_of_lt (Heap.lt_size P3.1), nst, P3.2.2.2.2⟩
  have pg := hg s3 (upd H2 D (.lst [])) s3.heap.objs.size (cellsFrom (s3.heap.objs.size + 1) scope.names (cloFrom X.env.cells scope.names [])) fp
  have pt := ht s3 (upd H2 D (.lst [])) s3.heap.objs.size (cellsFrom (s3.heap.objs.size + 1) scope.names (cloFrom X.env.cells scope.names [])) fp
  have pe := he s3 (upd H2 D (.lst [])) s3.heap.objs.size (cellsFrom (s3.heap.objs.size + 1) scope.names (cloFrom X.env.cells scope.names [])) fp
  show codeAny _ _ (.compStart (.ListComp elt [⟨tg, iter, ifs, 0⟩] scope pos) 0 (.ref it) (.ref D) (compEnvC scope (cellsFrom (s3.heap.objs.size + 1) scope.names (cloFrom X.env.cells scope.names [])) s3.heap.objs.size X.env)) (compPost (model X.prog X.w) X.A X.xe use Qf (.ref D) s3.heap.objs.size) { s3 with heap := pushCells (s3.heap.push { cls := .type "dict", data := .dict #[] }) scope.names }
  have nfp : ∀ b ∈ fp, (upd H2 D (.lst [])) b = none := fun b hb => (f3 b hb).1.1
  generalize hce : compEnvC scope (cellsFrom (s3.heap.objs.size + 1) scope.names (cloFrom X.env.cells scope.names [])) s3.heap.objs.size X.env = ce at I4 pg pt pe ⊢
  have cL : ce.locals = s3.heap.objs.size := by subst hce; rfl
  have hcB : L2H.HotC (blkP X p s3 (upd H2 D (.lst [])) scope ce fp) := ⟨p, hot, pnB⟩
  generalize hH3 : upd H2 D (.lst []) = H3 at I3 I4 pg pt pe w0 nfp f3 hcB
  generalize hs4 : ({ s3 with heap := pushCells (s3.heap.push { cls := .type "dict", data := .dict #[] }) scope.names } : Shared) = s4 at I4 ⊢
  have st4 : tn 0 s4.heap := T.keep _ _ _ st3 fun b _ o e => by rw [← hs4]; exact kp4 _ _ e
  have stat : ∀ {σ' : L2.St} {H' : Hp} {s' : Shared}, Inv (blkP X p s3 H3 scope ce fp) [] σ' H' s' → (∀ b ∈ fp, H' b = none) → ∀ b ∈ fp, FpOk (blkP X p s3 H3 scope ce fp) [] H' b := fun {σ' H' s'} I' hn b hb =>
    ⟨hn b hb, (I'.ok.exf b hb).1, I'.ok.exfs b hb, .inl hb, fun x c e => (I'.ok.exf b hb).2 x c e, fun r hr => by
      obtain rfl : r = p := by simpa using (show r ∈ [p] ++ ([] : List (Addr × Obj)) from hr)
      exact (f3 b hb).1.2.2.2.2.2 r (List.mem_append_left _ hp)⟩
  have loop : codeAny (model X.prog X.w) X.A (.compLoop (.ListComp elt [⟨tg, iter, ifs, 0⟩] scope pos) 0 (.ref it) (.ref D) ce) (compPost (model X.prog X.w) X.A X.xe use Qf (.ref D) s3.heap.objs.size) s4 := by
    refine compLoop_any (fun n s' => ∃ i H', Inv (blkP X p s3 H3 scope ce fp) [] (wipe σ (own.map (·.2))) H' s' ∧ tn i s'.heap ∧ (∀ b ∈ fp, H' b = none) ∧ W i n H') ?_ m0 ⟨0, H3, I4, st4, nfp, w0⟩
    rintro n s5 ⟨i, H5, I5, st5, n5, w5⟩
    rcases turn i n H5 w5 with ⟨stop, qq⟩ | ⟨go, Nx, hNx, step⟩
    · refine thnF (T.done (blkP X p s3 H3 scope ce fp) rfl rfl rfl hcB i [] s5 _ H5 (fun _ _ => False) I5 (stat I5 n5) st5 stop) fun r s6 ⟨hr, I6⟩ => ?_
      subst hr
      have I7 : Inv X pins σ H5 s6 := I3.call' (ch := fp) I6.os I6.base I6.hok I6.bare fun b hb => ⟨(f3 b hb).1.2.2.2.1, (f3 b hb).1.2.1, (f3 b hb).1.2.2.2.2.1, (f3 b hb).1.2.2.2.2.2⟩
      have nC : H5 s3.heap.objs.size = none := by
        have z : H5 ce.locals = none := I6.free
        rw [cL] at z
        exact z
      obtain ⟨m, hn, _⟩ := I6.loc
      have hn : s6.heap.Ns ce.locals m := hn
      rw [cL] at hn
      exact hRR D s3.heap.objs.size s6 m H5 I7 qq hn (I3.fpOk (Nat.le_refl _) nC)
    · refine thnF (T.item (blkP X p s3 H3 scope ce fp) rfl rfl rfl hcB i [] s5 _ H5 (fun _ _ => False) I5 (stat I5 n5) st5 go) fun r s6 ⟨u, hr, h6⟩ => ?_
      subst hr
      refine thnF h6 fun _ s7 ⟨x, H7, I7, r7, y7, st7, n7⟩ => ?_
      have I7' := I7.pinned (stat I7 n7) (T.obj _ _ st7)
      refine thnF (pg.run _ s7 _ H7 x u _ I7' r7 (step x H7 y7)) fun _ s8 ⟨σ8, H8, I8, hw8, q8⟩ => ?_
      refine thnF (pt.run _ s8 σ8 H8 _ I8 q8) fun b s9 ⟨H9, I9, q9⟩ => ?_
      have fin : ∀ {s' : Shared} {H' : Hp}, Inv (blkP X p s3 H3 scope ce fp) ([] ++ pinsAt fp s7.heap) σ8 H' s' → Nx H' → ∃ m, m < n ∧ ∃ i H', Inv (blkP X p s3 H3 scope ce fp) [] (wipe σ (own.map (·.2))) H' s' ∧ tn i s'.heap ∧ (∀ b ∈ fp, H' b = none) ∧ W i m H' := fun {s' H'} I' nx => by
        obtain ⟨m', hm, w'⟩ := hNx H' nx
        have pin' : ∀ b ∈ fp, ∀ o, s7.heap.get? b = some o → s'.heap.get? b = some o ∧ H' b = none := fun b hb o e =>
          let z := I'.pin (b, o) (List.mem_append_right _ (List.mem_append_right _ (mem_pinsAt hb e)))
          ⟨z.1, z.2.1⟩
        have hl : (wipe σ (own.map (·.2))).length = σ8.length := by rw [← hw8, wipe_length]
        refine ⟨m', hm, i + 1, H', (I'.unpinned (pins := [])).weak hl (fun j v e => ?_), T.keep _ _ _ st7 fun b hb o e => (pin' b hb o e).1, fun b hb => ?_, w'⟩
        · rw [← hw8] at e
          exact (wipe_some e).1
        · obtain ⟨o, e, _⟩ := T.obj _ _ st7 b hb
          exact (pin' b hb o e).2
      cases b with
      | false =>
        simp only [Bool.false_eq_true, if_false] at q9 ⊢
        exact fin I9 q9
      | true =>
        simp only [if_true] at q9 ⊢
        refine thnF (pe.run _ s9 σ8 H9 _ I9 q9) fun z s10 ⟨yv, H10, I10, r10, acc, hD10, hz10, nx⟩ => ?_
        exact app_ok (X := blkP X p s3 H3 scope ce fp) I10 hD10 hz10 r10 fun s11 I11 => fin I11 nx
  exact codeAny_compStart_list loop (T.self X.A 0 _ _ _ st4 loop)
theorem pe_lcP {elt tg iter : Expr} {ifs : List Expr} {scope : Scope} {own : List (Str × Nat)} {pos : Pos} {wi : TI} {g : TG} {tt : TT} {te : TE} {p : Addr × Obj} (hot : L2H.Hot1 X.A p) (hp : p ∈ X.pn) (hN : X.N.Nodup) (hi : L2H.PIH X tg iter wi) (ok : BlkOk X.N X.env.scope scope own)
    (hg : ∀ (s : Shared) (H : Hp) (C : Addr) (cl : List (Str × Addr)) (fp : List Addr), PG (blkP X p s H scope (compEnvC scope cl C X.env) fp) tg g) (ht : ∀ (s : Shared) (H : Hp) (C : Addr) (cl : List (Str × Addr)) (fp : List Addr), PTs (blkP X p s H scope (compEnvC scope cl C X.env) fp) ifs tt)
    (he : ∀ (s : Shared) (H : Hp) (C : Addr) (cl : List (Str × Addr)) (fp : List Addr), PE (blkP X p s H scope (compEnvC scope cl C X.env) fp) elt te) (hs : ∀ x, foldedSetIterable iter X.env x = pure x := by intro _; rfl) :
    PE X (.ListComp elt [⟨tg, iter, ifs, 0⟩] scope pos) (tLc wi g tt te (own.map (·.2))) := by
  refine ⟨fun pins s σ H Q I h => ?_⟩
  rw [eval_ListComp]
  refine lc_hot hot hp hN I hi ok hg ht he hs h fun D C s' m H' I' q hn f => ⟨m, hn, fun h'' sb => ?_⟩
  obtain ⟨f0, f1, f2, f3, f4, f5⟩ := f
  exact ⟨.ref D, H', I'.turned (t' := s'.toks) (fun b o hb e => (sb.2 b hb).trans e) f0 f1 f3 f4 f5, rfl, q⟩
end
end RL

set_option maxHeartbeats 2000000
/-! raise X(e) for the package's classes; defs that raise; a lambda that may raise, handed to a def. -/
namespace RL
open PySem L2 PySem.Spec PyProof.Rows
/-! ### raise -/
/-- X(e): class and dict of the exception -/
def tMkX (C : Addr) (f : Str) (te : TE) : L2.St → Hp → XK → Prop := fun σ H Q => te σ H fun y H1 => ∀ d, H1 d = none → Q (.ref C) (some d) (upd H1 d (.xd [(f, y)]))
def oneV (R : V → Hp → Prop) : List V → Hp → Prop
  | [y], H => R y H
  | _, _ => False
theorem pmk_x {X : Cx} {k : Nat} {C : Addr} {f x : Str} {e : Expr} {te : TE} {p pos : Pos} (M : XM X.prog X.w X.K X.mg X.base k C ["self", f] (spI X.K f)) (tyC : PySem.W.typeIn X.K (.ref C) = some (.type "type")) (hno : PySem.W.findIn X.K (.ref C) f = some none)
    (hr : Room (k + 1) X.A) (hg : Gl X x) (hm : X.mg x = some (.ref C)) (he : PE X e te) (hdb : (x == ("__debug__" : Str)) = false := by decide) (hst : starEach [e] X.env = (false, eval e X.env) :: starEach [] X.env := by rfl) (hpl : (backTo pos (starEach [] X.env)).any (·.1) = false := by rfl) :
    L2N.PMk X (.Call (.Name x p) [e] [] pos) (tMkX C f te) := by
  intro pins s σ H Q I h
  obtain ⟨g, fd, iC, tI, F, hb, _⟩ := M.ex
  have T := M.xc
  obtain ⟨B, nid, iid, bmB, FB, SF, q, ov⟩ := T.base
  have h' : tCons te tNil σ H (oneV fun y H1 => ∀ d, H1 d = none → Q (.ref C) (some d) (upd H1 d (.xd [(f, y)]))) := h
  refine wpAny_Call_Name_kw (ld_glob I hg hm (PySem.W.callWith_K (h₀ := X.base) I.ok.mod.kin T.kp (thn ((pa_cons he pa_nil hst).run pos pins s σ H _ I h') fun us s1 ⟨vs, H1, I1, r, q1⟩ => ⟨I1.kIn, ?_⟩) hst hpl) hdb)
  cases r with
  | nil => exact False.elim q1
  | @cons y u vs' us' ry rr =>
    cases rr with
    | cons _ _ => exact False.elim q1
    | nil =>
      obtain ⟨nm, N', qn, bs, bm, hdct, sn, sub, ab, col, dd, k0, k1, k2, k3, k5, hC, hT⟩ := PySem.W.excInit_of I1.kIn q
      have bf : ∀ self, PySem.W.Looks (model X.prog X.w) s1.heap (bindSpecial (.ref g) self) (.ref g, [self]) := fun self => PySem.W.bind_fn I1.kIn self (beq_iff_eq.mp tI)
      have li := PySem.W.looks_findIn (M := model X.prog X.w) I1.kIn iC
      obtain ⟨hp, gs, dr, tk, os⟩ := s1
      have hsz : hp.objs.size ≤ hp.objs.size + 1 := Nat.le_succ _
      have hn : H1 (hp.objs.size + 1) = none := I1.hok.fresh hsz
      have kk : ∀ b o, hp.get? b = some o → (PySem.RLX.laid2 C [u] hp).get? b = some o := fun b o e => Heap.get?_push_of_some _ (Heap.get?_push_of_some _ e)
      have hget : (PySem.RLX.laid2 C [u] hp).get? (hp.objs.size + 1) = some (PySem.HandSPX.excO C hp.objs.size) := by heap_get
      have I2 : Inv X pins σ (upd H1 (hp.objs.size + 1) (exo (hp.objs.size + 1) C none)) ⟨PySem.RLX.laid2 C [u] hp, gs, dr, tk, os⟩ :=
        I1.laid (t' := tk) (a := hp.objs.size + 1) (o := exo (hp.objs.size + 1) C none) (h' := PySem.RLX.laid2 C [u] hp) kk hsz (exo_ok hget)
      have hq : spI X.K f [.ref (hp.objs.size + 1), y] (upd H1 (hp.objs.size + 1) (exo (hp.objs.size + 1) C none)) (fun v H2 => v = .non ∧ ∃ d, H2 (hp.objs.size + 1) = some (exo (hp.objs.size + 1) C (some d)) ∧ H2 d = some (exd d [(f, y)]) ∧ H1 d = none ∧
          upd (del H2 (hp.objs.size + 1)) d (.xd [(f, y)]) = upd H1 d (.xd [(f, y)])) E0 := by
        refine ⟨_, C, y, rfl, T, hno, upd_same, fun dx nd ne => ⟨rfl, dx, upd_same, ?_, ?_, ?_⟩⟩
        · rw [upd_ne ne, upd_same]
        · rw [upd_ne ne] at nd
          exact nd
        · funext b
          by_cases hb : b = dx
          · rw [hb, upd_same, upd_same]
          · rw [upd_ne hb, upd_ne hb]
            by_cases hb2 : b = hp.objs.size + 1
            · rw [hb2, del_same, hn]
            · rw [del_ne hb2, upd_ne hb2, upd_ne hb, upd_ne hb2]
      have n1 : ([Value.ref (hp.objs.size + 1), u] ++ []).length = (["self", f] : List Str).length := rfl
      have hbb := hb ⟨PySem.RLX.laid2 C [u] hp, gs, dr, tk, os⟩ [Value.ref (hp.objs.size + 1), u] I2.kIn n1
      have rr2 : Vals [V.ref (hp.objs.size + 1), y] [Value.ref (hp.objs.size + 1), u] := .cons rfl (.cons ry .nil)
      refine wpAny_call (PySem.RLX.run_make FB hT hC li bf (by show 1 ≤ sizeLine; decide) (codeAny_mono (F.run _ X.stack _ _ ⟨[Value.ref (hp.objs.size + 1), u], []⟩ [Value.ref (hp.objs.size + 1), u] _ _ E0 (hr.make C [u] [])
        (I2.env0.make C [u] []) hbb rr2 hq) fun r s' z => ?_))
      cases r with
      | error e => exact z.elim
      | ok fl =>
        cases fl with
        | ret v =>
          obtain ⟨w', H2, os2, bare2, un2, hok2, rv, ev, d, ea, ed, hd1, eH⟩ := z
          subst ev
          obtain ⟨h2, g2, d2, t2, os'⟩ := s'
          obtain ⟨t0, G, J, kG, ge, hoe, na⟩ := mk_end0 (d2 := d2) (t2 := t2) I1 hsz kk un2 hok2 os2 bare2 ea ed hd1
          rw [eH] at J na
          refine ⟨rv, hp.objs.size + 1, _, _, ⟨G, g2, d2, t2, os'⟩, _, .ref C, some d, rfl, J, kG, ge, hoe, ⟨rfl, rfl, fun vs hv => ?_⟩, rfl, rfl, na, rfl, bare2, raises_own T.sub tyC, q1 d hd1⟩
          cases hv
          rfl
        | next => exact z.elim
        | brk => exact z.elim
        | cont => exact z.elim
/-- raise X(e) -/
theorem ps_raiseX {X : Cx} {k : Nat} {C : Addr} {f x : Str} {e : Expr} {te : TE} {p pos pos' : Pos} {W : WX} (M : XM X.prog X.w X.K X.mg X.base k C ["self", f] (spI X.K f)) (tyC : PySem.W.typeIn X.K (.ref C) = some (.type "type")) (hno : PySem.W.findIn X.K (.ref C) f = some none)
    (hr : Room (k + 1) X.A) (hg : Gl X x) (hm : X.mg x = some (.ref C)) (he : PE X e te) (hc : X.calm = true) (tk : L2N.Takes X W) (hdb : (x == ("__debug__" : Str)) = false := by decide) (hst : starEach [e] X.env = (false, eval e X.env) :: starEach [] X.env := by rfl) (hpl : (backTo pos (starEach [] X.env)).any (·.1) = false := by rfl) :
    PS X (.Raise (some (.Call (.Name x p) [e] [] pos)) none pos') (fun _ σ H => te σ H fun y H1 => ∀ d, H1 d = none → W (.ref C) (some d) σ (upd H1 d (.xd [(f, y)]))) :=
  L2N.ps_raise hc tk (pmk_x M tyC hno hr hg hm he hdb hst hpl)
/-! ### defs that raise -/
section
variable {P : Program} {w : World} {K : PySem.W.Frag} {mg : Str → Option Value} {base : Heap}
theorem okN {x qual : Str} {st : Stmt} {f : Addr} {fd : FuncData} {N ps : List Str} {k : Nat} {sp : Sp} (F : Fun K x qual st f fd) (S : FnScope N ps (defScope st)) (len : ∀ vs H Q E, sp vs H Q E → vs.length = ps.length)
    (bd : ∀ (cdv : Value) (A : Around) (outer : List Env) (s : Shared) (H : Hp) (vs : List V) (Q : VK) (E : XK), Room k (A.deeper (envOfC qual (defScope st) s.heap.objs.size f cdv)) → sp vs H Q E →
      ∃ t, PSs (cxOf (L2N.CX P w) P w K mg base N qual (defScope st) f cdv A outer s H E) (defBody st) t ∧ t { nx := fun _ H' => Q .non H', rt := Q } (L2.start N vs) H) : FnOk P w K mg base (L2N.CX P w) (k + 1) f fd ps sp := by
  obtain ⟨oc, od, kV, doc, pm, an, cdv, ct, osl, rfl, lk, hcd⟩ := F.ex
  exact fn_of lk hcd S len fun A outer s H vs Q E hr hsp => bd cdv A outer s H vs Q E hr hsp
end
/-- a def that may raise, as its callers see it -/
structure DfN (P : Program) (w : World) (K : PySem.W.Frag) (mg : Str → Option Value) (base : Heap) (k : Nat) (x : Str) (ps : List Str) (sp : Sp) : Prop where
  ex : ∃ (f : Addr) (fd : FuncData), FnOk P w K mg base (L2N.CX P w) k f fd ps sp ∧ mg x = some (.ref f) ∧ PySem.W.keepIn K (.ref f) = true ∧ Binds K fd ps []
/-- around a call what it lets out is taken -/
theorem passN {X : Cx} {W : WX} {E : XK} (tk : L2N.Takes X W) (hW : ∀ cls d σ H, E cls d H → W cls d σ H) : Passes (L2N.CX X.prog X.w) X E := L2N.passes_call tk hW
section
variable {X : Cx} {k : Nat} {ps : List Str} {sp : Sp} {x : Str} {p pos : Pos} {e : Expr} {es : List Expr} {t : TA} {E : XK}
theorem pe_dfN (D : DfN X.prog X.w X.K X.mg X.base k x ps sp) (hr : Room k X.A) (hg : Gl X x) (hx : Passes (L2N.CX X.prog X.w) X E)
    (ha : PA X (e :: es) t) (hdb : (x == ("__debug__" : Str)) = false := by decide) (he : starEach (e :: es) X.env = (false, eval e X.env) :: starEach es X.env := by rfl) (hpl : (backTo pos (starEach es X.env)).any (·.1) = false := by rfl) :
    PE X (.Call (.Name x p) (e :: es) [] pos) (tCall sp [] E t) := by
  obtain ⟨f, fd, G, hm, hk, hb⟩ := D.ex
  exact pe_call G hr hg hm hk hb .nil hx ha hdb he hpl
end
/-! ### the lambda -/
section
variable {X : Cx} {pins : List (Addr × Obj)} {σ : L2.St} {H HZ : Hp} {s s1 : Shared}
/-- what is wished of an exception that leaves the lambda's body -/
abbrev lamXe (X : Cx) (A : Around) (outer : List Env) (s : Shared) (H : Hp) (E : XK) (scope : Scope) (f c' : Addr) : Value → Shared → Prop := fun e s' =>
  wpAny (model X.prog X.w) (A.deeper (LamX.lamEnv X scope s.heap.objs.size f c')) (leaving (LamX.lamEnv X scope s.heap.objs.size f c') e) (fun _ s'' => L2N.CX X.prog X.w outer H s E e s'') (fun e' s'' => L2N.CX X.prog X.w outer H s E e' s'') s'
abbrev lamN (X : Cx) (A : Around) (outer : List Env) (s : Shared) (H : Hp) (E : XK) (scope : Scope) (f c' : Addr) : Cx := (LamX.lamCx X A outer s H E scope f c').tr [] (lamXe X A outer s H E scope f c')
theorem lamN_takes {A : Around} {outer : List Env} {E : XK} {scope : Scope} {f c' : Addr} : L2N.Takes (lamN X A outer s H E scope f c') (fun cls d _ H' => E cls d H') := L2N.takes_of rfl rfl rfl rfl
/-- a(), in the def that got the lambda -/
theorem pe_actN {CXg : CXT} {Eg : XK} {Ng : List Str} {qg : Str} {sg : Scope} {g f c' : Addr} {cdg pm ctv : Value} {params : Arguments} {body : Expr} {scope : Scope} {k i : Nat} {a : Str} {pn : List (Addr × Obj)} {xe : Value → Shared → Prop} {W : WX} {E : XK} {tb : TE} {p1 p2 : Pos}
    (I : Inv X pins σ H s) (L : LamX.LamS X.env.scope scope) (hf : s.heap.get? f = some (PySem.W.kla_obj "<lambda>" (X.env.qual ++ "<lambda>") params body scope (cloFrom X.env.cells scope.names []) pm c' ctv)) (hfn : H f = none) (hfr : f ∉ frs X.stack)
    (hbind : bindArgs (PySem.W.kla_fn "<lambda>" (X.env.qual ++ "<lambda>") params body scope (cloFrom X.env.cells scope.names []) pm (.ref c') ctv) ⟨[], []⟩ = pure [])
    (tk : L2N.Takes ((cxOf CXg X.prog X.w X.K X.mg X.base Ng qg sg g cdg X.A X.stack s H Eg).tr pn xe) W) (hr : Room (k + 1) (X.A.deeper (envOfC qg sg s.heap.objs.size g cdg)))
    (hbody : ∀ (A : Around) (outer : List Env) (s : Shared) (H : Hp), A.guards = X.A.guards → Room k (A.deeper (LamX.lamEnv X scope s.heap.objs.size f c')) → PE (lamN X A outer s H E scope f c') body tb)
    (hN : Ng[i]? = some a) (hv : Vis sg a) (hd : (a == ("__debug__" : Str)) = false := by decide) (hcd : (a == ("__classdict__" : Str)) = false := by decide) :
    PE ((cxOf CXg X.prog X.w X.K X.mg X.base Ng qg sg g cdg X.A X.stack s H Eg).tr pn xe) (.Call (.Name a p1) [] [] p2)
      (fun σZ HZ Q => σZ[i]? = some (some (.ref f)) ∧ HZ c' = some (LamX.CodeO c' (X.env.qual ++ "<lambda>")) ∧ (∀ cls d H', E cls d H' → W cls d σZ H') ∧ tb σ HZ Q) := by
  refine ⟨fun pinsZ sZ σZ HZ Q IZ ⟨hs, hc, hW, ht⟩ => ?_⟩
  refine wpAny_Call_Name_kw (thn ((pe_var (pos := p1) (i := i) hN hv hd hcd).run pinsZ sZ σZ HZ (fun v H1 => v = .ref f ∧ H1 = HZ) IZ ⟨.ref f, hs, rfl, rfl⟩) fun u s1 ⟨v, H1, I1, r1, ev, eH⟩ => ?_)
  subst ev
  rw [eH] at I1
  cases (show u = Value.ref f from r1)
  have of1 := I1.base.keep f _ hf hfn hfr (fun z => nomatch (show f ∈ ([] : List Addr) from z))
  refine PySem.W.callWith_F0 ⟨_, _, _, _, of1⟩ ?_
  obtain ⟨⟨oc, vs, t, hoc, hdc, hvc⟩, _, _⟩ := I1.hok c' _ hc
  have rc : codeAny (model X.prog X.w) (X.A.deeper (envOfC qg sg s.heap.objs.size g cdg)) (.call (.ref f) ⟨[], []⟩) (CR (L2N.CX X.prog X.w) (envOfC qg sg s.heap.objs.size g cdg :: X.stack) X.prog X.w HZ s1 Q E) s1 := by
    refine PySem.W.kla_callFunE hr.depth of1 rfl L.co L.gen rfl ⟨c', oc, vs, t, rfl, hoc, hdc, hvc⟩ ?_
    rw [hbind]
    refine wpAny_pure (wpAny_newFunctionEnv (fun y hy => (L.own y hy).2) (fun y hy => absurd hy (by simp)) (fun h₁ hns hsb => ⟨I1.nolimit.fresh _ hsb, ?_⟩) L.kind)
    show codeAny _ _ (.expr body (LamX.lamEnv X scope s1.heap.objs.size f c')) _ _
    have kp : ∀ b o, s1.heap.get? b = some o → h₁.get? b = some o := fun b o e => hsb.extBut b o (Nat.ne_of_lt (Heap.lt_size e)) (Heap.get?_push_of_some _ e)
    have J := LamX.lam_start2 (E := E) (tk := s1.toks + ([] : List (Str × Value)).length) (c' := c') (f := f) I L I1.env0 hr.hd I1.base hns kp
    refine PySem.W.kla_codeExpr (wpAny_mono ((hbody (X.A.deeper (envOfC qg sg s.heap.objs.size g cdg)) _ s1 HZ rfl (hr.deeper _)).run [] _ _ HZ Q (J.toTry _) ht) (fun v s' hq => ?_) fun e s' hq => hq)
    obtain ⟨w', H', J', rv, q⟩ := hq
    exact ⟨w', H', J'.os, J'.bare, J'.base, J'.hok, rv, q⟩
  refine wpAny_call (codeAny_mono rc fun r s' hq => ?_)
  cases r with
  | error e => exact tk e s' (L2N.XE.of_call I1 hW hq)
  | ok fl =>
    cases fl with
    | ret u => exact I1.after hq
    | next => exact False.elim hq
    | brk => exact False.elim hq
    | cont => exact False.elim hq
end
/-- the def that calls what it got -/
def GivesN (X : Cx) (k : Nat) (Ng : List Str) (x : Str) (sg : Scope) (g : Addr) (cdg : Value) (bg : List Stmt) (a : Str) (q : Str) (TT : (XK → Hp → VK → Prop) → Hp → VK → Prop) : Prop :=
  ∀ (f c' : Addr) (s : Shared) (H : Hp) (Q : VK) (tl : XK → Hp → VK → Prop), Room (k + 1) (X.A.deeper (envOfC x sg s.heap.objs.size g cdg)) →
    (∀ (W : WX) (pn : List (Addr × Obj)) (xe : Value → Shared → Prop) (E : XK) (p1 p2 : Pos), L2N.Takes ((cxOf CX0 X.prog X.w X.K X.mg X.base Ng x sg g cdg X.A X.stack s H E0).tr pn xe) W →
      PE ((cxOf CX0 X.prog X.w X.K X.mg X.base Ng x sg g cdg X.A X.stack s H E0).tr pn xe) (.Call (.Name a p1) [] [] p2) (fun σZ HZ Q => σZ[0]? = some (some (.ref f)) ∧ HZ c' = some (LamX.CodeO c' q) ∧ (∀ cls d H', E cls d H' → W cls d σZ H') ∧ tl E HZ Q)) →
    H c' = some (LamX.CodeO c' q) → TT tl H Q →
    ∃ t, PSs (cxOf CX0 X.prog X.w X.K X.mg X.base Ng x sg g cdg X.A X.stack s H E0).nox bg t ∧ t { nx := fun _ H' => Q .non H', rt := Q } (L2.start Ng [.ref f]) H
section
variable {X : Cx}
/-- x(lambda: body) -/
theorem pe_lamN {T : List (Addr × Str)} {TT : (XK → Hp → VK → Prop) → Hp → VK → Prop} {x a : Str} {g c P : Addr} {k : Nat} {pg : Arguments} {bg : List Stmt} {sg : Scope} {dV kV doc pm cdv ct oc : Value} {an od : Option Addr} {osl : Array (Option Value)} {Ng : List Str}
    {params : Arguments} {body : Expr} {scope : Scope} {t : XK → TE} {p lpos pos : Pos} (hg : Gl X x) (hm : X.mg x = some (.ref g)) (hk : PySem.W.keepIn X.K (.ref g) = true)
    (lk : X.K.lookup g = some ⟨oc, od, .func (PySem.W.fnOf x x pg bg sg dV kV doc pm an cdv ct), osl⟩) (hcg : PySem.W.codeIn X.K cdv x = true) (hb : L2.Binds X.K (PySem.W.fnOf x x pg bg sg dV kV doc pm an cdv ct) [a] []) (Sg : FnScope Ng [a] sg) (hNg : Ng[0]? = some a) (hva : Vis sg a)
    (hG : GivesN X k Ng x sg g cdv bg a (X.env.qual ++ "<lambda>") TT)
    (TB : LamX.TabB X.base X.mg c P) (hcode : X.env.code = .ref c) (hmT : (P, X.env.qual ++ "<lambda>") ∈ T) (hu : ∀ p ∈ T, p.1 = P → p.2 = X.env.qual ++ "<lambda>") (hr : Room (k + 2) X.A) (L : LamX.LamS X.env.scope scope) (hdef : defaultsOf params X.env = ([], []))
    (hbind : ∀ (q : Str) (cl : List (Str × Addr)) (pm cv ctv : Value), bindArgs (PySem.W.kla_fn "<lambda>" q params body scope cl pm cv ctv) ⟨[], []⟩ = pure [])
    (hbody : ∀ (A : Around) (outer : List Env) (s : Shared) (H : Hp) (E : XK) (f c' : Addr), A.guards = X.A.guards → Room k (A.deeper (LamX.lamEnv X scope s.heap.objs.size f c')) → PE (lamN X A outer s H E scope f c') body (t E))
    (hdb : (x == ("__debug__" : Str)) = false := by decide) (hd : (a == ("__debug__" : Str)) = false := by decide) (hcd : (a == ("__classdict__" : Str)) = false := by decide) :
    PE X (.Call (.Name x p) [.Lambda params body scope lpos] [] pos) (LamX.tLam T TT t) := by
  refine ⟨fun pins s σ H Q I ⟨hT, h⟩ => wpAny_Call_Name_kw (ld_glob I hg hm (PySem.W.callWith_K (h₀ := X.base) I.ok.mod.kin hk ?_ (by rfl) (by rfl)) hdb)⟩
  show wpAny _ _ (spliced ((false, eval (.Lambda params body scope lpos) X.env) :: backTo pos (starEach [] X.env))) _ _ s
  refine Calls.spliced_cons (LamX.lam_make2 I TB hcode hmT hu hT hdef (L.has I.ok) fun f c' pm' ctv H1 s' I1 eN T1 hf hfn hfr hco => Calls.spliced_nil ⟨I1.kIn, ?_⟩)
  have rc : codeAny (model X.prog X.w) X.A (.call (.ref g) ⟨[.ref f], []⟩) (CR CX0 X.stack X.prog X.w H1 s' Q E0) s' := by
    refine LamX.run_ofS (N := Ng) (ps := [a]) (us := [.ref f]) (vs := [.ref f]) lk hcg Sg hr I1.env0 (hb s' [.ref f] I1.kIn rfl) (.cons rfl .nil) rfl fun hr' => ?_
    obtain ⟨t', ht', hq'⟩ := hG f c' s' H1 Q (fun E H' Q' => t E σ H' Q') hr' (fun W pn xe E p1 p2 tk => pe_actN (i := 0) I1 L hf hfn hfr (hbind _ _ _ _ _) tk hr' (fun A outer s H hgd hr2 => hbody A outer s H E f c' hgd hr2) hNg hva hd hcd) hco (h H1 eN T1)
    exact ⟨t', ht'.nox, hq'⟩
  refine wpAny_call (codeAny_mono rc fun r s2 hq => ?_)
  cases r with
  | error e => exact (show False from hq).elim
  | ok fl =>
    cases fl with
    | ret u => exact I1.after hq
    | next => exact False.elim hq
    | brk => exact False.elim hq
    | cont => exact False.elim hq
end
end RL

set_option maxHeartbeats 2000000
/-! star parameters of defs that may raise -/
namespace RL
open PySem L2 PySem.Spec PyProof.Rows
theorem cxUpN {P : Program} {w : World} : StX.CXUp (L2N.CX P w) := by
  intro outer s H s2 H2 E e s' un kp ho h
  obtain ⟨a, B, H', cls, d, ea, fl, hok, ub, na, os, ag, he⟩ := h
  have ub' : UB (frs outer) H H' s.heap B s'.heap := by
    constructor
    case keep => exact fun b o q n hb => ub.keep b o (kp b o q) (un.free b o q n (by simp)) hb
    case slot => exact fun b o q hb => ub.slot b o (kp b o q) hb
    case free => exact fun b o q n => ub.free b o (kp b o q) (un.free b o q n (by simp))
    case there => exact fun b o q hb => ub.there b o (kp b o q) hb
    case tups => exact fun b xs q => ub.tups b xs (un.tups b xs q)
    case frzs => exact fun b o xs q => ub.frzs b o xs (un.frzs b o xs q)
    case tbls =>
      intro b ps q
      obtain ⟨m1, e1⟩ := un.tbls b ps q
      obtain ⟨m2, e2⟩ := ub.tbls b _ e1
      exact ⟨m1 ++ m2, by rw [e2, Array.append_assoc]⟩
  exact ⟨a, B, H', cls, d, ea, fl, hok, ub', na, os.trans ho, ag, he⟩
end RL

set_option maxHeartbeats 2000000
/-! Values of many kinds: what isinstance says of them; what they show. -/
namespace RL
open PySem L2 PySem.Spec PyProof.Rows
def tyN : PyData → String
  | .none => "NoneType"
  | .bool _ => "bool"
  | .int _ => "int"
  | .str _ => "str"
  | .list _ => "list"
  | .tuple _ => "tuple"
  | .dict _ => "dict"
theorem ty_dp {K : PySem.W.Frag} {H : Hp} {v : V} {d : PyData} (h : Dp K H v d) : TyX K H v (.type (tyN d)) := by
  cases h with
  | non => exact .base .non
  | bl b => exact .base (.bl b)
  | int i => exact .base (.int i)
  | str x => exact .base (.str x)
  | lst a b =>
    rcases a with (a | ⟨o, a⟩) | ⟨o, its, n, e, c, r⟩
    · exact .base (.lst a)
    · exact .base (.frz a)
    · exact .kList e c
  | tup a b =>
    rcases a with (a | ⟨o, a⟩) | ⟨o, its, n, e, c, r⟩
    · exact .base (.tup a)
    · exact .fTuple a
    · exact .kTuple e c
theorem ty_dq {K : PySem.W.Frag} {H : Hp} {v : V} {d : PyData} (h : Dq K H v d) : TyX K H v (.type (tyN d)) := by
  cases h with
  | dp a b => exact ty_dp a
  | dk a => exact .base (.dK a)
def isIntD : PyData → Bool
  | .int _ => true
  | _ => false
def isTupD : PyData → Bool
  | .tuple _ => true
  | _ => false
def isStrD : PyData → Bool
  | .str _ => true
  | _ => false
def intOrBool : PyData → Bool
  | .int _ => true
  | .bool _ => true
  | _ => false
def isBoolD : PyData → Bool
  | .bool _ => true
  | _ => false
theorem kit_int {K : PySem.W.Frag} (d : PyData) : PySem.W.kitOne K (.type (tyN d)) (.type "int") = some (intOrBool d) := by
  cases d <;> (simp only [tyN, intOrBool]; exact kit_ty (by decide +kernel))
theorem kit_bool {K : PySem.W.Frag} (d : PyData) : PySem.W.kitOne K (.type (tyN d)) (.type "bool") = some (isBoolD d) := by
  cases d <;> (simp only [tyN, isBoolD]; exact kit_ty (by decide +kernel))
theorem kit_tup {K : PySem.W.Frag} (d : PyData) : PySem.W.kitOne K (.type (tyN d)) (.type "tuple") = some (isTupD d) := by
  cases d <;> (simp only [tyN, isTupD]; exact kit_ty (by decide +kernel))
theorem kit_str {K : PySem.W.Frag} (d : PyData) : PySem.W.kitOne K (.type (tyN d)) (.type "str") = some (isStrD d) := by
  cases d <;> (simp only [tyN, isStrD]; exact kit_ty (by decide +kernel))
def withinD (d : PyData) (lo hi : Int) : Bool := match d with
  | .int i => decide (lo ≤ i) && decide (i ≤ hi)
  | _ => false
def pairD : PyData → Bool
  | .tuple [a, b] => isIntD a && isIntD b
  | _ => false
/-- what is a resistance -/
def resD : PyData → Bool
  | .int i => decide (0 ≤ i) && decide (i ≤ 1000000000000)
  | .tuple [.int a, .int b] => decide (a = 1 ∧ b = 0) || (decide (0 ≤ a) && decide (a ≤ 1000000000000) && (decide (1 ≤ b) && decide (b ≤ 1000000000000)))
  | _ => false
/-- a promise that asks more of its callers -/
theorem FnOk.weak {P : Program} {w : World} {K : PySem.W.Frag} {mg : Str → Option Value} {base : Heap} {CX : CXT} {k : Nat} {f : Addr} {fd : FuncData} {ps : List Str} {sp sp' : Sp} (F : FnOk P w K mg base CX k f fd ps sp) (h : ∀ vs H Q E, sp' vs H Q E → sp vs H Q E) : FnOk P w K mg base CX k f fd ps sp' :=
  ⟨fun vs H Q E q => F.len vs H Q E (h _ _ _ _ q), fun A outer s H args us vs Q E hr e0 hb r q => F.run A outer s H args us vs Q E hr e0 hb r (h _ _ _ _ q)⟩
end RL

namespace RL
open PySem L2 PySem.Spec PyProof.Rows
theorem ix_tupK {X : Cx} {K : PySem.W.Frag} (hK : X.K = K := by rfl) : IxR X (rIxT K) := by
  subst hK
  exact ix_tup
theorem ix_listK {X : Cx} {K : PySem.W.Frag} (hK : X.K = K := by rfl) : IxR X (rIxL K) := by
  subst hK
  exact ix_list
end RL

set_option maxHeartbeats 2000000
namespace RL
open PySem L2 PySem.Spec PyProof.Rows
/-! ### data in heaps -/
inductive Dr (H : Hp) : V → PyData → Prop
  | non : Dr H .non .none
  | bl (b : Bool) : Dr H (.bl b) (.bool b)
  | int (i : Int) : Dr H (.int i) (.int i)
  | str (x : Str) : Dr H (.str x) (.str x)
  | lst {a : Addr} {vs : List V} {ds : List PyData} : H a = some (.lst vs) → vs.length = ds.length → (∀ (i : Nat) v d, vs[i]? = some v → ds[i]? = some d → Dr H v d) → Dr H (.ref a) (.list ds)
  | tup {a : Addr} {vs : List V} {ds : List PyData} : H a = some (.tup vs) → vs.length = ds.length → (∀ (i : Nat) v d, vs[i]? = some v → ds[i]? = some d → Dr H v d) → Dr H (.ref a) (.tuple ds)
  | dk {a : Addr} : H a = some (.dK []) → Dr H (.ref a) (.dict [])
def Drs (H : Hp) (vs : List V) (ds : List PyData) : Prop := vs.length = ds.length ∧ ∀ (i : Nat) v d, vs[i]? = some v → ds[i]? = some d → Dr H v d
theorem Drs.nil {H : Hp} : Drs H [] [] := ⟨rfl, fun (i : Nat) v d h => by simp at h⟩
theorem Drs.cons {H : Hp} {v : V} {d : PyData} {vs : List V} {ds : List PyData} (h : Dr H v d) (t : Drs H vs ds) : Drs H (v :: vs) (d :: ds) := by
  refine ⟨by simp [t.1], fun (i : Nat) w e h1 h2 => ?_⟩
  cases i with
  | zero =>
    cases h1
    cases h2
    exact h
  | succ i => exact t.2 i w e h1 h2
theorem Dr.ts {H : Hp} {a : Addr} {vs : List V} {ds : List PyData} (h : H a = some (.tup vs)) (t : Drs H vs ds) : Dr H (.ref a) (.tuple ds) := .tup h t.1 t.2
theorem Dr.ls {H : Hp} {a : Addr} {vs : List V} {ds : List PyData} (h : H a = some (.lst vs)) (t : Drs H vs ds) : Dr H (.ref a) (.list ds) := .lst h t.1 t.2
theorem Dr.mono {H H' : Hp} {v : V} {d : PyData} (h : Dr H v d) (s : Same H H') : Dr H' v d := by
  induction h with
  | non => exact .non
  | bl b => exact .bl b
  | int i => exact .int i
  | str x => exact .str x
  | lst h l _ ih => exact .lst (s _ _ h) l ih
  | tup h l _ ih => exact .tup (s _ _ h) l ih
  | dk h => exact .dk (s _ _ h)
theorem Drs.mono {H H' : Hp} {vs : List V} {ds : List PyData} (h : Drs H vs ds) (s : Same H H') : Drs H' vs ds := ⟨h.1, fun (i : Nat) v d h1 h2 => (h.2 i v d h1 h2).mono s⟩
theorem Drs.inv {H : Hp} {v : V} {d : PyData} {vs : List V} {ds : List PyData} (h : Drs H (v :: vs) (d :: ds)) : Dr H v d ∧ Drs H vs ds :=
  ⟨h.2 0 v d rfl rfl, ⟨by have := h.1; simpa using this, fun (i : Nat) w e h1 h2 => h.2 (i + 1) w e h1 h2⟩⟩
theorem Drs.at_ {H : Hp} {vs : List V} {ds : List PyData} (h : Drs H vs ds) {i : Nat} {d : PyData} (hd : ds[i]? = some d) : ∃ v, vs[i]? = some v ∧ Dr H v d := by
  have hi : i < vs.length := by rw [h.1]; exact (List.getElem?_eq_some_iff.mp hd).1
  exact ⟨_, List.getElem?_eq_getElem hi, h.2 i _ d (List.getElem?_eq_getElem hi) hd⟩
theorem Drs.atv {H : Hp} {vs : List V} {ds : List PyData} (h : Drs H vs ds) {i : Nat} {v : V} (hv : vs[i]? = some v) : ∃ d, ds[i]? = some d ∧ Dr H v d := by
  have hi : i < ds.length := by rw [← h.1]; exact (List.getElem?_eq_some_iff.mp hv).1
  exact ⟨_, List.getElem?_eq_getElem hi, h.2 i v _ hv (List.getElem?_eq_getElem hi)⟩
theorem Drs.app {H : Hp} {vs ws : List V} {ds es : List PyData} (h : Drs H vs ds) (h' : Drs H ws es) : Drs H (vs ++ ws) (ds ++ es) := by
  induction vs generalizing ds with
  | nil =>
    cases ds with
    | nil => exact h'
    | cons d ds => exact absurd h.1 (by simp)
  | cons v vs ih =>
    cases ds with
    | nil => exact absurd h.1 (by simp)
    | cons d ds => exact .cons h.inv.1 (ih h.inv.2)
theorem Drs.take {H : Hp} {vs : List V} {ds : List PyData} (h : Drs H vs ds) (n : Nat) : Drs H (vs.take n) (ds.take n) := by
  refine ⟨by rw [List.length_take, List.length_take, h.1], fun (i : Nat) v d h1 h2 => ?_⟩
  rw [List.getElem?_take] at h1 h2
  split at h1
  · rename_i hi
    rw [if_pos hi] at h2
    exact h.2 i v d h1 h2
  · cases h1
theorem Drs.drop {H : Hp} {vs : List V} {ds : List PyData} (h : Drs H vs ds) (n : Nat) : Drs H (vs.drop n) (ds.drop n) := by
  refine ⟨by rw [List.length_drop, List.length_drop, h.1], fun (i : Nat) v d h1 h2 => ?_⟩
  rw [List.getElem?_drop] at h1 h2
  exact h.2 _ v d h1 h2
/-- no dict within -/
theorem hda_at : ∀ {ds : List PyData} {i : Nat} {d : PyData}, PyData.hasDictAll ds = false → ds[i]? = some d → d.hasDict = false
  | d :: ds, 0, _, h, e => by
    cases e
    simp only [PyData.hasDictAll, Bool.or_eq_false_iff] at h
    exact h.1
  | d :: ds, i + 1, _, h, e => by
    simp only [PyData.hasDictAll, Bool.or_eq_false_iff] at h
    exact hda_at h.2 e
theorem dpAll_of {K : PySem.W.Frag} {H : Hp} : ∀ {vs : List V} {ds : List PyData}, vs.length = ds.length → (∀ (i : Nat) v d, vs[i]? = some v → ds[i]? = some d → Dp K H v d) → DpAll K H vs ds
  | [], [], _, _ => .nil
  | [], _ :: _, h, _ => absurd h (by simp)
  | _ :: _, [], h, _ => absurd h (by simp)
  | v :: vs, d :: ds, h, k => .cons (k 0 v d rfl rfl) (dpAll_of (by simpa using h) fun (i : Nat) w e h1 h2 => k (i + 1) w e h1 h2)
theorem Dr.dp {K : PySem.W.Frag} {H : Hp} {v : V} {d : PyData} (h : Dr H v d) (n : d.hasDict = false) : Dp K H v d := by
  induction h with
  | non => exact .non
  | bl b => exact .bl b
  | int i => exact .int i
  | str x => exact .str x
  | lst h l _ ih => exact .lst (SqL.of h) (dpAll_of l fun (i : Nat) v d h1 h2 => ih i v d h1 h2 (hda_at n h2))
  | tup h l _ ih => exact .tup (SqT.of h) (dpAll_of l fun (i : Nat) v d h1 h2 => ih i v d h1 h2 (hda_at n h2))
  | dk h => exact absurd n (by simp [PyData.hasDict])
/-- a thing without dicts, or the empty dict -/
def Nd (d : PyData) : Prop := d.hasDict = false ∨ d = .dict []
theorem Dr.dq {K : PySem.W.Frag} {H : Hp} {v : V} {d : PyData} (h : Dr H v d) (n : Nd d) : Dq K H v d := by
  rcases n with n | rfl
  · exact .dp (h.dp n) n
  · cases h with
    | dk h => exact .dk (kvs := []) h
theorem Nd.at_ {ds : List PyData} {i : Nat} {d : PyData} (n : Nd (.tuple ds)) (h : ds[i]? = some d) : d.hasDict = false := by
  rcases n with n | n
  · exact hda_at n h
  · cases n
theorem ty_dr {K : PySem.W.Frag} {H : Hp} {v : V} {d : PyData} (h : Dr H v d) : TyX K H v (.type (tyN d)) := by
  cases h with
  | non => exact .base .non
  | bl b => exact .base (.bl b)
  | int i => exact .base (.int i)
  | str x => exact .base (.str x)
  | lst a _ _ => exact .base (.lst a)
  | tup a _ _ => exact .base (.tup a)
  | dk a => exact .base (.dK a)
theorem Dr.tuple {H : Hp} {v : V} {ds : List PyData} (h : Dr H v (.tuple ds)) : ∃ a vs, v = .ref a ∧ H a = some (.tup vs) ∧ Drs H vs ds := by
  cases h with
  | tup a l k => exact ⟨_, _, rfl, a, l, k⟩
theorem Dr.list {H : Hp} {v : V} {ds : List PyData} (h : Dr H v (.list ds)) : ∃ a vs, v = .ref a ∧ H a = some (.lst vs) ∧ Drs H vs ds := by
  cases h with
  | lst a l k => exact ⟨_, _, rfl, a, l, k⟩
theorem Dr.toInt {H : Hp} {v : V} {i : Int} (h : Dr H v (.int i)) : v = .int i := by
  cases h with
  | int i => rfl
theorem Dr.toStr {H : Hp} {v : V} {x : Str} (h : Dr H v (.str x)) : v = .str x := by
  cases h with
  | str i => rfl
/-! ### heaps less one place -/
def hid (c : Addr) (H : Hp) : Hp := fun b => if b = c then none else H b
theorem hid_of {c b : Addr} {H : Hp} {o : HO} (h : H b = some o) (n : b ≠ c) : hid c H b = some o := by
  unfold hid
  rw [if_neg n]
  exact h
theorem hid_get {c b : Addr} {H : Hp} {o : HO} (h : hid c H b = some o) : b ≠ c ∧ H b = some o := by
  unfold hid at h
  by_cases n : b = c
  · rw [if_pos n] at h
    cases h
  · rw [if_neg n] at h
    exact ⟨n, h⟩
theorem hid_but {c : Addr} {H H' : Hp} (s : But c H H') : Same (hid c H) (hid c H') := fun b o e => by
  obtain ⟨n, h⟩ := hid_get e
  exact hid_of (s b o n h) n
theorem hid_sub {c : Addr} {H : Hp} : Same (hid c H) H := fun b o e => (hid_get e).2
/-- data that lean not on c -/
def Dh (c : Addr) (H : Hp) (v : V) (d : PyData) : Prop := Dr (hid c H) v d
theorem Dh.but {c : Addr} {H H' : Hp} {v : V} {d : PyData} (h : Dh c H v d) (s : But c H H') : Dh c H' v d := Dr.mono h (hid_but s)
theorem Dh.same {c : Addr} {H H' : Hp} {v : V} {d : PyData} (h : Dh c H v d) (s : Same H H') : Dh c H' v d := h.but (.of s)
theorem Dh.dr {c : Addr} {H : Hp} {v : V} {d : PyData} (h : Dh c H v d) : Dr H v d := Dr.mono h hid_sub
def Dhs (c : Addr) (H : Hp) (vs : List V) (ds : List PyData) : Prop := Drs (hid c H) vs ds
theorem Dhs.but {c : Addr} {H H' : Hp} {v : List V} {d : List PyData} (h : Dhs c H v d) (s : But c H H') : Dhs c H' v d := Drs.mono h (hid_but s)
theorem Dhs.same {c : Addr} {H H' : Hp} {v : List V} {d : List PyData} (h : Dhs c H v d) (s : Same H H') : Dhs c H' v d := h.but (.of s)
theorem Dhs.drs {c : Addr} {H : Hp} {v : List V} {d : List PyData} (h : Dhs c H v d) : Drs H v d := Drs.mono h hid_sub
/-! ### the tape -/
def TapeAt (c : Addr) (n : Nat) (H : Hp) : Prop := ∃ x y z : Int, H c = some (.lst [.int x, .int y, .int z]) ∧ 0 ≤ x ∧ 0 ≤ y ∧ y < 2147483629 ∧ 0 ≤ z ∧ z ≤ n
theorem TapeAt.same {c : Addr} {n : Nat} {H H' : Hp} (h : TapeAt c n H) (s : Same H H') : TapeAt c n H' := by
  obtain ⟨x, y, z, a, b⟩ := h
  exact ⟨x, y, z, s _ _ a, b⟩
theorem TapeAt.ne {c b : Addr} {n : Nat} {H : Hp} (h : TapeAt c n H) (m : H b = none) : c ≠ b := by
  obtain ⟨x, y, z, a, _⟩ := h
  exact ne_of_none a m
theorem TapeAt.le {c : Addr} {n m : Nat} {H : Hp} (h : TapeAt c n H) (l : n ≤ m) : TapeAt c m H := by
  obtain ⟨x, y, z, a, b, c, d, e, f⟩ := h
  exact ⟨x, y, z, a, b, c, d, e, by omega⟩
theorem TapeAt.nt {c : Addr} {n : Nat} {H : Hp} (h : TapeAt c n H) {t : Addr} {xs : List V} (e : H t = some (.tup xs)) : t ≠ c := by
  obtain ⟨x, y, z, a, _⟩ := h
  exact ne_of e a (by intro z; cases z)
theorem TapeAt.notup {c : Addr} {n : Nat} {H : Hp} (h : TapeAt c n H) : ∀ xs, H c ≠ some (.tup xs) := fun xs z => h.nt z rfl
/-- a value made behind the tape -/
theorem Dh.new {c : Addr} {n : Nat} {H : Hp} {p : Addr} {vs : List V} {ds : List PyData} (t : TapeAt c n H) (np : H p = none) (h : Dhs c H vs ds) : Dh c (upd H p (.tup vs)) (.ref p) (.tuple ds) :=
  Dr.ts (hid_of upd_same (t.ne np).symm) (h.same (same_upd np))
theorem Dh.newL {c : Addr} {n : Nat} {H : Hp} {p : Addr} {vs : List V} {ds : List PyData} (t : TapeAt c n H) (np : H p = none) (h : Dhs c H vs ds) : Dh c (upd H p (.lst vs)) (.ref p) (.list ds) :=
  Dr.ls (hid_of upd_same (t.ne np).symm) (h.same (same_upd np))
def spCell (K : PySem.W.Frag) : Sp := fun vs H Q _ => ∃ (a : Addr) (ns : List Int) (i : Nat), vs = [.ref a, .int (i : Int)] ∧ SqL K H a (ns.map V.int) ∧ i ≤ 100 ∧ ns.length ≤ 63 ∧
  ∀ H' (j : Int), Same H H' → Q (.int j) H'
def spSrc : Sp := fun vs H Q _ => ∃ i : Int, vs = [.int i] ∧ ∀ H' c, Same H H' → H c = none → TapeAt c 0 H' → Q (.ref c) H'
def spDraw : Sp := fun vs H Q _ => ∃ (c : Addr) (n : Nat) (m : Int), vs = [.ref c, .int m] ∧ TapeAt c n H ∧ n < 1000000 ∧ 0 < m ∧ Sm 200 m ∧
  ∀ H' r, But c H H' → TapeAt c (n + 1) H' → 0 ≤ r → r < m → Q (.int r) H'
section
variable {P : Program} {w : World} {K : PySem.W.Frag} {mg : Str → Option Value} {base : Heap}
abbrev s_law_cell : Stmt := top 70
theorem sc_law_cell : FnScope ["_law_script", "_law_place", "_law_found", "_law_number"] ["_law_script", "_law_place"] (defScope s_law_cell) := ⟨rfl, rfl, rfl, by decide +kernel, rfl, by decide +kernel, by decide +kernel⟩

theorem ok_cell {f : Addr} {fd : FuncData} (F : Fun K "_law_cell" "_law_cell" s_law_cell f fd) (T : Txt K mg) : FnOk P w K mg base CX0 1 f fd ["_law_script", "_law_place"] (spCell K) := by
  refine F.ok sc_law_cell (fun vs H Q E h => ?_) (fun cdv A outer s H vs Q E hr h => ?_)
  · obtain ⟨a, ns, i, rfl, _⟩ := h
    rfl
  · obtain ⟨a, ns, i, rfl, hS, hi, hn, k⟩ := h
    refine ⟨_, (pss_cons (ps_if (pt_cmpR op_lt (pv 1) (pe_callB call_len_seq (by rfl) T.len (by decide +kernel) (pa_cons (pv 0) pa_nil)) (nomark _)) (pss_one (ps_ret (pe_callTy call_int1 (by rfl) T.int_ (by decide +kernel) (pa_cons (pe_ix ix_list (pv 0) (pv 1) (fun _ _ => rfl)) pa_nil)))) pss_nil)
      (pss_cons (ps_set (i := 2) sc_law_cell.nd rfl (.inl rfl) (pe_op op_add (pe_op op_add (pe_op op_mulX (pe_op op_mul pe_int (pv 1)) (pv 1)) (pe_op op_mul pe_int (pv 1))) pe_int))
      (pss_cons (ps_for PassesOwn.never rfl (pi_list (pe_slice sl_list (pv 0) po_none (po_some pe_int))) (pg_name (i := 3) sc_law_cell.nd rfl (.inl rfl)) (pss_one (ps_set (i := 2) sc_law_cell.nd rfl (.inl rfl) (pe_op op_mod (pe_callTy call_int1 (by rfl) T.int_ (by decide +kernel) (pa_cons (pe_op op_add (pe_op op_mul (pv 2) pe_int) (pv 3)) pa_nil)) pe_int))))
      (pss_one (ps_ret (pv 2)))))), ?_⟩
    have hlen : (ns.map V.int).length = ns.length := List.length_map ..
    have isI : ∀ (xs : List Int) (j : Nat) (y : V), (xs.map V.int)[j]? = some y → ∃ u, y = V.int u := fun xs j y hj => by
      rw [List.getElem?_map] at hj
      cases q : xs[j]? with
      | none =>
        rw [q] at hj
        cases hj
      | some u =>
        rw [q] at hj
        exact ⟨u, (Option.some.inj hj).symm⟩
    refine ⟨_, rfl, _, rfl, a, _, rfl, .inl hS, _, _, rfl, rfl, _, rfl, ite2 (fun e => ?_) (fun e => ?_)⟩
    · have e0 : (i : Int) < (ns.map V.int).length := of_decide_eq_true e
      have hin : i < ns.length := by omega
      exact ⟨_, rfl, _, rfl, a, _, _, _, rfl, rfl, hS, atI_nat (v := V.int ns[i]) (by rw [List.getElem?_map, List.getElem?_eq_getElem hin]; rfl), .inl ⟨_, rfl, k _ _ (Same.refl _)⟩⟩
    · have s1 : Sm 40 (40009 * (i : Int)) := by
        have : (2 : Nat) ^ 40 = 1099511627776 := by decide
        unfold Sm
        omega
      have s2 : Sm 40 (i : Int) := by
        have : (2 : Nat) ^ 40 = 1099511627776 := by decide
        unfold Sm
        omega
      refine ⟨_, rfl, _, _, rfl, rfl, .inl ⟨by decide, by decide⟩, _, rfl, _, _, rfl, rfl, mx s1 s2, _, rfl, _, _, rfl, rfl, .inl ⟨by decide, by decide⟩, _, _, rfl, rfl, _, _, rfl, rfl, ?_⟩
      refine ⟨_, rfl, 4, rfl, a, _, rfl, hS, fun l hl0 => ?_⟩
      have sm := same_upd (o := .lst (cutV (ns.map V.int) none (some 4))) hl0
      obtain ⟨ms, em⟩ : ∃ ms : List Int, cutV (ns.map V.int) none (some 4) = ms.map V.int := by
        unfold cutV
        rw [← List.map_drop, ← List.map_take]
        exact ⟨_, rfl⟩
      have hl : SqL K (upd H l (.lst (cutV (ns.map V.int) none (some 4)))) l (ms.map V.int) := by
        refine SqL.of ?_
        rw [upd_same, em]
      refine ⟨l, rfl, ⟨_, hl⟩, for_list (K := K) (a := l) (xs := ms.map V.int) (fun j σ H' => ∃ (c2 : Int) (v3 : Option V), σ = [some (.ref a), some (.int i), some (.int c2), v3] ∧ H' = upd H l (.lst (cutV (ns.map V.int) none (some 4)))) ⟨_, none, rfl, rfl⟩ (fun _ _ _ _ h => by obtain ⟨_, _, _, rfl⟩ := h; exact hl) ?_ ?_⟩
      · rintro j y σ H' hj ⟨c2, v3, rfl, rfl⟩
        obtain ⟨u, rfl⟩ := isI _ _ _ hj
        refine ⟨_, rfl, _, _, rfl, rfl, .inr ⟨by decide, by decide⟩, _, rfl, _, _, rfl, rfl, .inl ⟨_, rfl, _, _, rfl, rfl, (by decide : (0 : Int) < 2147483629), ?_⟩⟩
        exact ⟨_, _, rfl, rfl⟩
      · rintro σ H' ⟨c2, v3, rfl, rfl⟩
        exact ⟨_, rfl, k _ _ sm⟩
abbrev s_law_src : Stmt := top 71
theorem sc_law_src : FnScope ["_law_number", "_law_digits"] ["_law_number"] (defScope s_law_src) := ⟨rfl, rfl, rfl, by decide +kernel, rfl, by decide +kernel, by decide +kernel⟩

theorem ok_src {f : Addr} {fd : FuncData} (F : Fun K "_law_src" "_law_src" s_law_src f fd) (T : Txt K mg) : FnOk P w K mg base CX0 1 f fd ["_law_number"] spSrc := by
  refine F.ok sc_law_src (fun vs H Q E h => ?_) (fun cdv A outer s H vs Q E hr h => ?_)
  · obtain ⟨i, rfl, _⟩ := h
    rfl
  · obtain ⟨i, rfl, k⟩ := h
    refine ⟨_, (pss_cons (ps_set (i := 1) sc_law_src.nd rfl (.inl rfl) (pe_ifExp (PW.pt (pw_or (pt_cmpR op_lt (pv 0) pe_int (nomark _)) (pw_or1 (pt_cmpR op_ge (pv 0) (pe_op op_pow pe_int pe_int) (nomark _))))) (pe_callB call_abs (by rfl) T.abs (by decide +kernel) (pa_cons (pv 0) pa_nil)) pe_int))
      (pss_one (ps_ret (pe_lst (pa_cons (pv 1) (pa_cons (pe_op op_mod (pe_callTy call_int1 (by rfl) T.int_ (by decide +kernel) (pa_cons (pv 0) pa_nil)) pe_int) (pa_cons pe_int pa_nil))))))), ?_⟩
    have m0 := Int.emod_nonneg i (show (2147483629 : Int) ≠ 0 by decide)
    have m1 := Int.emod_lt_of_pos i (show (0 : Int) < 2147483629 by decide)
    have fin : ∀ x : Int, 0 ≤ x → ∀ p, H p = none → Q (.ref p) (upd H p (.lst [.int x, .int (i % 2147483629), .int 0])) := fun x x0 p np => k _ p (same_upd np) np ⟨x, _, 0, upd_same, x0, m0, m1, by omega, by omega⟩
    have ab : ∀ p, H p = none → Q (.ref p) (upd H p (.lst [.int (if i < 0 then -i else i), .int (i % 2147483629), .int 0])) := fin _ (by split <;> omega)
    refine ⟨_, rfl, _, _, rfl, rfl, _, rfl, ite2 (fun e => ?_) (fun e => ?_)⟩
    · refine iteT ⟨_, rfl, _, rfl, ?_⟩
      exact ⟨_, rfl, _, rfl, .inl ⟨_, rfl, _, _, rfl, rfl, (by decide : (0 : Int) < 2147483629), (by show 3 ≤ sizeLine; decide), ab⟩⟩
    · refine ⟨_, rfl, _, _, rfl, rfl, ⟨by decide, by decide, by decide⟩, _, _, rfl, rfl, _, rfl, ite2 (fun e4 => ?_) (fun e4 => ?_)⟩
      · refine ⟨_, rfl, _, rfl, ?_⟩
        exact ⟨_, rfl, _, rfl, .inl ⟨_, rfl, _, _, rfl, rfl, (by decide : (0 : Int) < 2147483629), (by show 3 ≤ sizeLine; decide), ab⟩⟩
      · exact ⟨_, rfl, _, rfl, .inl ⟨_, rfl, _, _, rfl, rfl, (by decide : (0 : Int) < 2147483629), (by show 3 ≤ sizeLine; decide), fin 0 (by decide)⟩⟩
abbrev s_law_pick : Stmt := top 72
theorem sc_law_pick : FnScope ["_law_tape", "_law_many", "_law_digit"] ["_law_tape", "_law_many"] (defScope s_law_pick) := ⟨rfl, rfl, rfl, by decide +kernel, rfl, by decide +kernel, by decide +kernel⟩

theorem ok_draw {f : Addr} {fd : FuncData} (F : Fun K "_law_pick" "_law_pick" s_law_pick f fd) (T : Txt K mg) : FnOk P w K mg base CX0 1 f fd ["_law_tape", "_law_many"] spDraw := by
  refine F.ok sc_law_pick (fun vs H Q E h => ?_) (fun cdv A outer s H vs Q E hr h => ?_)
  · obtain ⟨c, n, m, rfl, _⟩ := h
    rfl
  · obtain ⟨c, n, m, rfl, ⟨x, y, z, hc, x0, y0, y1, z0, z1⟩, n1, m0, ms, k⟩ := h
    refine ⟨_, (C8.pss_cut (ps_asg (pe_op op_add (pe_ix ix_list (pv 0) pe_int (fun _ _ => rfl)) pe_int) (pg_sub (pv 0) pe_int set_list))
      (C8.pss_cut (ps_asg (pe_op op_mod (pe_callTy call_int1 (by rfl) T.int_ (by decide +kernel) (pa_cons (pe_op op_pow (pe_op op_add (pe_op op_add (pe_ix ix_list (pv 0) pe_int (fun _ _ => rfl)) (pe_op op_mul pe_int (pe_ix ix_list (pv 0) pe_int (fun _ _ => rfl)))) pe_int) pe_int) pa_nil)) pe_int) (pg_sub (pv 0) pe_int set_list))
      (pss_cons (ps_if (pt_cmpR op_gt (pe_ix ix_list (pv 0) pe_int (fun _ _ => rfl)) pe_int (nomark _)) (pss_cons (ps_asg (pe_callB call_divmodW (by rfl) T.divmod (by decide +kernel) (pa_cons (pe_ix ix_list (pv 0) pe_int (fun _ _ => rfl)) (pa_cons (pv 1) pa_nil))) (pg_tup rfl (pgs_cons (pg_sub (pv 0) pe_int set_list) (pgs_cons (pg_name (i := 2) sc_law_pick.nd rfl (.inl rfl)) pgs_nil))))
      (pss_one (ps_ret (pv 2)))) pss_nil)
      (pss_one (ps_ret (pe_op op_mod (pe_callTy call_int1 (by rfl) T.int_ (by decide +kernel) (pa_cons (pe_op op_fdivW (pe_ix ix_list (pv 0) pe_int (fun _ _ => rfl)) pe_int) pa_nil)) (pv 1))))))), ?_⟩
    refine ⟨fun σ' H' => σ' = [some (.ref c), some (.int m), none] ∧ H' c = some (.lst [.int x, .int y, .int (z + 1)]) ∧ But c H H', ?_, ?_⟩
    · exact ⟨_, rfl, c, _, _, _, rfl, rfl, SqL.of hc, atI_nat (j := 2) rfl, _, _, rfl, rfl, _, rfl, c, _, _, _, rfl, rfl, hc, rfl, rfl, upd_same, But.upd⟩
    rintro σ1 H1 ⟨rfl, hc1, b1⟩
    have big : (y + 31337 * (z + 1) + 17).natAbs < 2 ^ 64 := by
      have : (2 : Nat) ^ 64 = 18446744073709551616 := by decide
      omega
    refine ⟨fun σ' H' => ∃ u, σ' = [some (.ref c), some (.int m), none] ∧ H' c = some (.lst [.int x, .int u, .int (z + 1)]) ∧ But c H H' ∧ 0 ≤ u ∧ u < 2147483629, ?_, ?_⟩
    · refine ⟨_, rfl, c, _, _, _, rfl, rfl, SqL.of hc1, atI_nat (j := 1) rfl, _, rfl, c, _, _, _, rfl, rfl, SqL.of hc1, atI_nat (j := 2) rfl, _, _, rfl, rfl, .inl ⟨by decide, by decide⟩, _, _, rfl, rfl, _, _, rfl, rfl, _, _, rfl, rfl, ⟨by decide, by decide, big⟩, .inl ⟨_, rfl, _, _, rfl, rfl, (by decide : (0 : Int) < 2147483629), _, rfl, c, _, _, _, rfl, rfl, hc1, rfl, ?_⟩⟩
      exact ⟨_, rfl, upd_same, b1.trans But.upd, Int.emod_nonneg _ (by decide), Int.emod_lt_of_pos _ (by decide)⟩
    rintro σ2 H2 ⟨u, rfl, hc2, b2, q0, q1⟩
    refine ⟨_, rfl, c, _, _, _, rfl, rfl, SqL.of hc2, atI_nat (j := 0) rfl, _, _, rfl, rfl, _, rfl, ite2 (fun e => ?_) (fun e => ?_)⟩
    · have e0 : 0 < x := of_decide_eq_true e
      refine ⟨_, rfl, c, _, _, _, rfl, rfl, SqL.of hc2, atI_nat (j := 0) rfl, _, rfl, _, _, rfl, ⟨m0, PyProof.noPylong_of_log2 (PySem.Flt.log2_lt_of (by decide) (Nat.lt_of_lt_of_le ms (Nat.pow_le_pow_right (by decide) (by decide : 200 ≤ 9000))))⟩, fun p hp => ?_⟩
      have ncp : c ≠ p := ne_of_none hc2 hp
      have hc3 : (upd H2 p (HO.tup [V.int (x / m), V.int (x % m)])) c = some (.lst [.int x, .int u, .int (z + 1)]) := by
        rw [upd_ne ncp]
        exact hc2
      refine ⟨p, _, rfl, SqT.of upd_same, rfl, _, _, rfl, _, rfl, c, _, _, _, rfl, rfl, hc3, rfl, _, _, rfl, rfl, _, rfl, ?_⟩
      refine k _ _ ?_ ⟨x / m, u, z + 1, upd_same, Int.ediv_nonneg x0 (by omega), q0, q1, by omega, by omega⟩ (Int.emod_nonneg _ (by omega)) (Int.emod_lt_of_pos _ m0)
      exact (b2.trans (But.of (same_upd hp))).trans But.upd
    · refine ⟨_, rfl, c, _, _, _, rfl, rfl, SqL.of hc2, atI_nat (j := 1) rfl, _, _, rfl, rfl, ⟨by decide, by decide⟩, .inl ⟨_, rfl, _, rfl, _, _, rfl, rfl, m0, ?_⟩⟩
      exact k _ _ b2 ⟨x, u, z + 1, hc2, x0, q0, q1, by omega, by omega⟩ (Int.emod_nonneg _ (by omega)) (Int.emod_lt_of_pos _ m0)
end
end RL

set_option maxHeartbeats 2000000
/-! d.get(k) of a dict of the module's top; an empty dict beside a text; a def that is held as a value. -/
namespace RL
open PySem L2 PySem.Spec PyProof.Rows PySem.SeqAt PySem.MeetsSeq
/-- d.get(k): d a written dict of the top, k a text -/
def tGetK (K : PySem.W.Frag) (w : World) (td ty : TE) : TE := fun σ H Q => td σ H fun x H1 => ∃ d es n, x = .ref d ∧ KDict K w d es n ∧ ty σ H1 fun y H2 => ∃ (z : Str) (r : Option Value) (v : V), y = .str z ∧ PySem.W.nsIn K d z = some r ∧ RelV v (r.getD .none) ∧ Q v H2
section
variable {X : Cx} {o e : Expr} {apos cpos : Pos} {td ty : TE}
theorem pe_dgetK (ho : PE X o td) (he : PE X e ty)
    (base : attributeBase o "get" X.env (eval o X.env) = eval o X.env := by rfl)
    (few : ((backTo cpos (starEach [e] X.env)).all (fun x => !x.1) && (backToKw cpos (keywordEach [] X.env)).all (fun x => x.1.isSome) && decide (([e] : List Expr).length + ([] : List Keyword).length + (if ([] : List Keyword).isEmpty then 0 else 1) < 30)) = true := by rfl)
    (line : (apos.endLine == cpos.line) = true := by rfl) (trees : backTo cpos (starEach [e] X.env) = [(false, eval e X.env)] := by rfl) :
    PE X (.Call (.Attribute o "get" apos) [e] [] cpos) (tGetK X.K X.w td ty) := by
  refine ⟨fun pins s σ H Q I h => ?_⟩
  refine wpAny_Call_method base few line PySem.F.plainAttrs_dict PySem.F.slot_dict_get PySem.F.type_dict_get (thn (ho.run pins s σ H _ I h) fun u s1 ⟨x, H1, I1, rx, a, es, n, ex, D, q1⟩ => ?_)
  subst ex
  obtain rfl : u = Value.ref a := rx
  have hm := PySem.W.mapOf_K (prog := X.prog) (w := X.w) I1.kIn D.at_ D.lit
  refine ⟨hm.typeIs, fun b q => ?_, ?_⟩
  · cases q
    exact ⟨_, I1.kIn _ _ D.at_, rfl⟩
  rw [trees]
  refine Calls.callWith_builtin rfl (Calls.evalArgs_plain (Calls.spliced_cons (thn (he.run pins s1 σ H1 _ I1 q1) fun iv s2 ⟨y, H2, I2, ry, z, r, v, ey, hn, rv, q2⟩ => Calls.spliced_nil ?_)))
  subst ey
  obtain ⟨t, rfl⟩ := (show ∃ t, iv = Value.str z t from ry)
  have hm2 := PySem.W.mapOf_K (prog := X.prog) (w := X.w) I2.kIn D.at_ D.lit
  refine call_meetsIn PySem.F.slot_dict_get hm2.typeIs PySem.F.entry_dict_get (PySem.F.args_dict_get_2 _ _) (meets_dict_get (strKind X.prog X.w) a (strKind_is X.prog X.w z t) D.low) ⟨_, hm2, v, H2, I2.tok _, ?_, q2⟩
  rw [PySem.W.find_K D.at_ hn]
  exact rv
end
/-! ### an empty dict beside a text -/
open AutoSeq1 (wpAny_loadPart')
theorem dict_ne_declines_str (l : Addr) (es : Array DictEntry) (n : Nat) (dd : Option Addr) (sl : Array (Option Value)) (b : Str) (u : Tok) :
    Meets (Builtin.«dict.__ne__» ⟨[.ref l, .str b u], []⟩) (fun _ R s => s.heap.get? l = some { cls := .type "dict", dict := dd, data := .dict es n, slots := sl } ∧ R (.ok (.ret .notImplemented)) s) :=
  .of_wp fun prog w A R s h => by obtain ⟨hp, g, d, tk, os⟩ := s; obtain ⟨hl, h⟩ := h; have f1 := F.sub_str_dict; wp_walk using wpAny_loadPart' hl; exact ⟨_, rfl, h⟩
theorem str_ne_declines_dict_str (b : Str) (u : Tok) (l : Addr) (c : Value) (es : Array DictEntry) (n : Nat) (dd : Option Addr) (sl : Array (Option Value)) :
    Meets (Builtin.«str.__ne__» ⟨[.str b u, .ref l], []⟩) (fun _ R s => s.heap.get? l = some { cls := c, dict := dd, data := .dict es n, slots := sl } ∧ R (.ok (.ret .notImplemented)) s) :=
  .of_wp fun prog w A R s h => by obtain ⟨hp, g, d, tk, os⟩ := s; obtain ⟨hl, h⟩ := h; wp_walk using wpAny_loadPart' hl, wpAny_load hl; exact ⟨_, rfl, h⟩
theorem ne_dict_str {A : Around} {s : Shared} {l : Addr} {ob : Obj} {es : Array DictEntry} {n : Nat} (b : Str) (u : Tok) (ho : s.heap.get? l = some ob) (hc : ob.cls = .type "dict") (hd : ob.data = .dict es n) (hu : A.units < cLine) : RcNeAt A s (.ref l) (.str b u) true := fun prog w E Q h => by
  obtain ⟨cls, dd, data, sl⟩ := ob
  simp only at hc hd
  subst hc hd
  exact rc_ne_decline_or (k := false) ⟨_, ho, rfl⟩ (typeIs_str s b u) (by decide) F.sub_str_dict F.slot_dict_ne F.slot_str_ne_refl
    (fun _ hq => call_meets F.slot_dict_ne ⟨_, ho, rfl⟩ F.entry_dict_ne (F.args_dict_ne_2 _ _) (dict_ne_declines_str l es n dd sl b u) ⟨ho, hq⟩)
    (fun _ hq => call_meets F.slot_str_ne_refl (typeIs_str s b u) F.entry_str_ne (F.args_str_ne_2 _ _) (str_ne_declines_dict_str b u l (.type "dict") es n dd sl) ⟨ho, hq⟩)
    (fun _ hq => wpAny_of_eq (rfl : isSame (.ref l) (.str b u) = pure false) hq) (.inr hu) h
/-- x != 'text' of any data -/
def rNeS (K : PySem.W.Frag) : R2 := fun x y H Q => ∃ z : Str, y = .str z ∧ ((∃ d, Dp K H x d ∧ SeqAt.shaped d = true ∧ SeqAt.shaped (.str z) = true ∧ Q (.bl (!PyData.eqv d (.str z))) H) ∨ ∃ a kvs, x = .ref a ∧ H a = some (.dK kvs) ∧ Q (.bl true) H)
theorem op_neS {X : Cx} (hu : X.A.units + 64 < cLine) : OpR X (compareOp .NotEq) (rNeS X.K) := by
  intro pins s σ H x y v u Q I rx ry h
  obtain ⟨z, rfl, h⟩ := h
  rcases h with ⟨d, hd, s1, s2, q⟩ | ⟨a, kvs, rfl, ha, q⟩
  · exact op_neD hu pins s σ H x _ v u Q I rx ry ⟨d, _, hd, .str z, s1, s2, q⟩
  · obtain rfl : v = Value.ref a := rx
    obtain ⟨t, rfl⟩ := (show ∃ t, u = Value.str z t from ry)
    obtain ⟨_, _, vs, _, ob, es, ep, h1, h2, h3, _⟩ := dk_of I.hok ha
    exact ne_dict_str z t h1 h2.1 h3 (by omega) X.prog X.w X.xe _ ⟨.bl true, H, I, rfl, q⟩
/-! x is True -/
def rIsB : R2 := fun x y H Q => ∃ a b : Bool, x = .bl a ∧ y = .bl b ∧ Q (.bl (decide (a = b))) H
def rNIsB : R2 := fun x y H Q => ∃ a b : Bool, x = .bl a ∧ y = .bl b ∧ Q (.bl (!decide (a = b))) H
theorem bool_beq (a b : Bool) : (Value.bool a == Value.bool b) = decide (a = b) := by
  cases a <;> cases b <;> rfl
theorem op_isB {X : Cx} : OpR X (compareOp .Is) rIsB := by
  intro pins s σ H x y v u Q I rx ry h
  obtain ⟨a, b, rfl, rfl, q⟩ := h
  cases (show v = Value.bool a from rx)
  cases (show u = Value.bool b from ry)
  exact wpAny_is_plain rfl (fin_bl I q (bool_beq a b).symm)
theorem op_isNotB {X : Cx} : OpR X (compareOp .IsNot) rNIsB := by
  intro pins s σ H x y v u Q I rx ry h
  obtain ⟨a, b, rfl, rfl, q⟩ := h
  cases (show v = Value.bool a from rx)
  cases (show u = Value.bool b from ry)
  exact wpAny_isNot_plain rfl (fin_bl I q (congrArg (!·) (bool_beq a b).symm))
end RL

set_option maxHeartbeats 2000000
namespace RL
open PySem L2 PySem.Spec PyProof.Rows
theorem call_isiK {X : Cx} {K : PySem.W.Frag} (hK : X.K = K := by rfl) : CallR X (.builtin "isinstance") (rIsi K) := by
  subst hK
  exact call_isi
/-! the checks of values, of any data -/
theorem dpAll_len {K : PySem.W.Frag} {H : Hp} : ∀ {ys : List V} {ds : List PyData}, DpAll K H ys ds → ys.length = ds.length
  | [], _, h => by cases h; rfl
  | _ :: _, _, h => by
    cases h with
    | cons a b => rw [List.length_cons, List.length_cons, dpAll_len b]
/-- what is a resistance -/
def resOf : PyData → PyData → Bool
  | .int a, .int b => decide (a = 1 ∧ b = 0) || (decide (0 ≤ a) && decide (a ≤ 1000000000000) && (decide (1 ≤ b) && decide (b ≤ 1000000000000)))
  | _, _ => false
def resG : PyData → Bool
  | .int i => decide (0 ≤ i) && decide (i ≤ 1000000000000)
  | .tuple [a, b] => resOf a b
  | _ => false
theorem eqv_open (a b : Int) : PyData.eqv (.tuple [.int a, .int b]) (.tuple [.int 1, .int 0]) = decide (a = 1 ∧ b = 0) := by
  rw [Bool.eq_iff_iff]
  simp [PyData.eqv, PyData.eqvAll]
def spIntG (K : PySem.W.Frag) : Sp := fun vs H Q _ => ∃ (v : V) (d : PyData), vs = [v] ∧ Dq K H v d ∧ Q (.bl (isIntD d)) H
def spWithinG (K : PySem.W.Frag) : Sp := fun vs H Q _ => ∃ (v : V) (d : PyData) (lo hi : Int), vs = [v, .int lo, .int hi] ∧ Dq K H v d ∧ Q (.bl (withinD d lo hi)) H
def spPairG (K : PySem.W.Frag) : Sp := fun vs H Q _ => ∃ (v : V) (d : PyData), vs = [v] ∧ Dq K H v d ∧ Q (.bl (pairD d)) H
def spResG (K : PySem.W.Frag) : Sp := fun vs H Q _ => ∃ (v : V) (d : PyData), vs = [v] ∧ Dq K H v d ∧ Q (.bl (resG d)) H
section
variable {P : Program} {w : World} {K : PySem.W.Frag} {mg : Str → Option Value} {base : Heap} {tG : Tok} {aO : Addr}
theorem ok_isintG {f : Addr} {fd : FuncData} (F : Fun K "is_integer" "is_integer" s_is_integer f fd) (T : Txt K mg) : FnOk P w K mg base CX0 1 f fd ["value"] (spIntG K) := by
  refine F.ok sc_is_integer (fun vs H Q E h => ?_) (fun cdv A outer s H vs Q E hr h => ?_)
  · obtain ⟨v, d, rfl, _⟩ := h
    rfl
  · obtain ⟨v, d, rfl, hd, k⟩ := h
    refine ⟨_, (pss_one (ps_ret (pe_and (pe_callB call_isi (by rfl) T.isinstance (by decide +kernel) (pa_cons (pv 0) (pa_cons (pe_bltn (v := .ty "int") (by rfl) T.int_ (by decide +kernel) rfl) pa_nil))) (pe_one (pe_not (pe_callB call_isi (by rfl) T.isinstance (by decide +kernel) (pa_cons (pv 0) (pa_cons (pe_bltn (v := .ty "bool") (by rfl) T.bool_ (by decide +kernel) rfl) pa_nil)))))))), ?_⟩
    refine ⟨_, rfl, _, _, _, _, intOrBool d, rfl, .ty _, ty_dq hd, kit_int d, _, rfl, ?_⟩
    cases h1 : intOrBool d with
    | true =>
      refine iteT ⟨_, rfl, _, _, _, _, isBoolD d, rfl, .ty _, ty_dq hd, kit_bool d, _, rfl, ?_⟩
      have e : isIntD d = !isBoolD d := by cases d <;> first | rfl | exact absurd h1 (by simp [intOrBool])
      rw [← e]
      exact k
    | false =>
      have e : isIntD d = false := by cases d <;> first | rfl | exact absurd h1 (by simp [intOrBool])
      rw [e] at k
      exact iteF k
theorem ok_withinG {f : Addr} {fd : FuncData} (F : Fun K "is_integer_within" "is_integer_within" s_is_integer_within f fd) (D_is_integer : Df P w K mg base 1 "is_integer" ["value"] (spIntG K)) : FnOk P w K mg base CX0 2 f fd ["value", "least", "most"] (spWithinG K) := by
  refine F.ok sc_is_integer_within (fun vs H Q E h => ?_) (fun cdv A outer s H vs Q E hr h => ?_)
  · obtain ⟨v, d, lo, hi, rfl, _⟩ := h
    rfl
  · obtain ⟨v, d, lo, hi, rfl, hd, k⟩ := h
    refine ⟨_, (pss_one (ps_ret (pe_and (pe_df D_is_integer (hr.mono (by decide)) (by rfl) (pa_cons (pv 0) pa_nil)) (pe_one (pe_chain op_le op_le (pv 1) (pv 0) (pv 2)))))), ?_⟩
    refine ⟨_, rfl, v, d, rfl, hd, _, rfl, ?_⟩
    cases h1 : isIntD d with
    | false =>
      have e : withinD d lo hi = false := by cases d <;> first | rfl | exact absurd h1 (by simp [isIntD])
      rw [e] at k
      exact iteF k
    | true =>
      obtain ⟨i, rfl⟩ : ∃ i, d = .int i := by cases d <;> first | exact ⟨_, rfl⟩ | exact absurd h1 (by simp [isIntD])
      have ev : v = .int i := by
        cases hd with
        | dp a b => cases a with
          | int i => rfl
      subst ev
      refine iteT ⟨_, rfl, _, rfl, _, _, rfl, rfl, _, rfl, ite2 (fun e1 => ?_) (fun e1 => ?_)⟩
      · refine ⟨_, rfl, _, _, rfl, rfl, ?_⟩
        have e : withinD (.int i) lo hi = decide (i ≤ hi) := by
          simp only [withinD]
          rw [e1]
          rfl
        rw [e] at k
        exact k
      · have e : withinD (.int i) lo hi = false := by
          simp only [withinD]
          rw [show decide (lo ≤ i) = false from Bool.eq_false_iff.mpr e1]
          rfl
        rw [e] at k
        exact k
theorem ok_ispairG {f : Addr} {fd : FuncData} (F : Fun K "is_pair_of_integers" "is_pair_of_integers" s_is_pair_of_integers f fd) (T : Txt K mg) (D_is_integer : Df P w K mg base 1 "is_integer" ["value"] (spIntG K)) : FnOk P w K mg base CX0 2 f fd ["value"] (spPairG K) := by
  refine F.ok sc_is_pair_of_integers (fun vs H Q E h => ?_) (fun cdv A outer s H vs Q E hr h => ?_)
  · obtain ⟨v, d, rfl, _⟩ := h
    rfl
  · obtain ⟨v, d, rfl, hd, k⟩ := h
    refine ⟨_, (pss_one (ps_ret (pe_and (pe_callB call_isi (by rfl) T.isinstance (by decide +kernel) (pa_cons (pv 0) (pa_cons (pe_bltn (v := .ty "tuple") (by rfl) T.tuple_ (by decide +kernel) rfl) pa_nil))) (pe_and (pe_cmpR op_eq (pe_callB call_len_seq (by rfl) T.len (by decide +kernel) (pa_cons (pv 0) pa_nil)) pe_int (nomark _)) (pe_and (pe_df D_is_integer (hr.mono (by decide)) (by rfl) (pa_cons (pe_ix ix_tup (pv 0) pe_int (fun _ _ => rfl)) pa_nil)) (pe_one (pe_df D_is_integer (hr.mono (by decide)) (by rfl) (pa_cons (pe_ix ix_tup (pv 0) pe_int (fun _ _ => rfl)) pa_nil)))))))), ?_⟩
    refine ⟨_, rfl, _, _, _, _, isTupD d, rfl, .ty _, ty_dq hd, kit_tup d, _, rfl, ?_⟩
    cases h1 : isTupD d with
    | false =>
      have e : pairD d = false := by cases d <;> first | rfl | exact absurd h1 (by simp [isTupD])
      rw [e] at k
      exact iteF k
    | true =>
      obtain ⟨ds, rfl⟩ : ∃ ds, d = .tuple ds := by cases d <;> first | exact ⟨_, rfl⟩ | exact absurd h1 (by simp [isTupD])
      obtain ⟨t, ys, rfl, hs, hall, hnd⟩ : ∃ t ys, v = .ref t ∧ SqT K H t ys ∧ DpAll K H ys ds ∧ (PyData.tuple ds).hasDict = false := by
        cases hd with
        | dp a b => cases a with
          | tup h1 h2 => exact ⟨_, _, rfl, h1, h2, b⟩
      have el := dpAll_len hall
      refine iteT ⟨_, rfl, t, _, rfl, .inr hs, rfl, _, rfl, ?_⟩
      cases h2 : decide (V.int (ys.length : Int) = V.int 2) with
      | false =>
        have nl : ds.length ≠ 2 := fun z => by
          rw [el, z] at h2
          exact absurd h2 (by decide)
        have e : pairD (.tuple ds) = false := by
          match ds, nl with
          | [], _ => rfl
          | [_], _ => rfl
          | [_, _], n => exact absurd rfl n
          | _ :: _ :: _ :: _, _ => rfl
        rw [e] at k
        exact iteF k
      | true =>
        have l2 : ds.length = 2 := by
          have := V.int.inj (of_decide_eq_true h2)
          omega
        match ds, l2, hall, k, hnd with
        | [e, o], _, hall, k, hnd =>
        obtain ⟨y1, y2, rfl, d1, d2⟩ : ∃ y1 y2, ys = [y1, y2] ∧ Dp K H y1 e ∧ Dp K H y2 o := by
          cases hall with
          | cons a b => cases b with
            | cons b c => cases c with
              | nil => exact ⟨_, _, rfl, a, b⟩
        have nd : e.hasDict = false ∧ o.hasDict = false := by simpa [PyData.hasDict, PyData.hasDictAll] using hnd
        have q : pairD (.tuple [e, o]) = (isIntD e && isIntD o) := rfl
        rw [q] at k
        refine iteT ⟨_, rfl, t, _, _, _, rfl, rfl, hs, atI_nat (j := 0) rfl, y1, e, rfl, .dp d1 nd.1, _, rfl, ?_⟩
        cases h3 : isIntD e with
        | false =>
          rw [h3] at k
          exact iteF k
        | true =>
          rw [h3] at k
          exact iteT ⟨_, rfl, t, _, _, _, rfl, rfl, hs, atI_nat (j := 1) rfl, y2, o, rfl, .dp d2 nd.2, k⟩
theorem ok_isresG {f : Addr} {fd : FuncData} (F : Fun K "is_resistance" "is_resistance" s_is_resistance f fd) (T : Txt2 K mg tG aO) (D_is_integer : Df P w K mg base 1 "is_integer" ["value"] (spIntG K)) (D_is_pair_of_integers : Df P w K mg base 2 "is_pair_of_integers" ["value"] (spPairG K)) : FnOk P w K mg base CX0 3 f fd ["value"] (spResG K) := by
  refine F.ok sc_is_resistance (fun vs H Q E h => ?_) (fun cdv A outer s H vs Q E hr h => ?_)
  · obtain ⟨v, d, rfl, _⟩ := h
    rfl
  · obtain ⟨v, d, rfl, hd, k⟩ := h
    refine ⟨_, (pss_cons (ps_if (pt_val (pe_df D_is_integer (hr.mono (by decide)) (by rfl) (pa_cons (pv 0) pa_nil))) (pss_one (ps_ret (pe_chain op_le op_le pe_int (pv 0) (pe_glob (v := .int 1000000000000) rfl T.mgG ⟨_, rfl⟩)))) pss_nil)
      (pss_cons (ps_if (pt_not (pt_val (pe_df D_is_pair_of_integers (hr.mono (by decide)) (by rfl) (pa_cons (pv 0) pa_nil)))) (pss_one (ps_ret pe_bl)) pss_nil)
      (pss_cons (ps_asg (pv 0) (pg_tup rfl (pgs_cons (pg_name (i := 1) sc_is_resistance.nd rfl (.inl rfl)) (pgs_cons (pg_name (i := 2) sc_is_resistance.nd rfl (.inl rfl)) pgs_nil))))
      (pss_one (ps_ret (pe_or (pe_cmpR (op_eqD hr.units) (pv 0) (pe_glob (v := .ref aO) rfl T.mgO rfl) (nomark _)) (pe_one (pe_and (pe_chain op_le op_le pe_int (pv 1) (pe_glob (v := .int 1000000000000) rfl T.mgG ⟨_, rfl⟩)) (pe_one (pe_chain op_le op_le pe_int (pv 2) (pe_glob (v := .int 1000000000000) rfl T.mgG ⟨_, rfl⟩))))))))))), ?_⟩
    refine ⟨_, rfl, v, d, rfl, hd, _, rfl, ?_⟩
    cases h1 : isIntD d with
    | true =>
      obtain ⟨i, rfl⟩ : ∃ i, d = .int i := by cases d <;> first | exact ⟨_, rfl⟩ | exact absurd h1 (by simp [isIntD])
      have ev : v = .int i := by
        cases hd with
        | dp a b => cases a with
          | int i => rfl
      subst ev
      have q : resG (.int i) = (decide (0 ≤ i) && decide (i ≤ 1000000000000)) := rfl
      rw [q] at k
      refine iteT ⟨_, rfl, _, _, rfl, rfl, _, rfl, ite2 (fun e => ?_) (fun e => ?_)⟩
      · rw [show decide (0 ≤ i) = true from e] at k
        exact ⟨_, _, rfl, rfl, k⟩
      · rw [show decide (0 ≤ i) = false from Bool.eq_false_iff.mpr e] at k
        exact k
    | false =>
      refine iteF ⟨_, rfl, v, d, rfl, hd, _, rfl, ?_⟩
      cases h2 : pairD d with
      | false =>
        have q : resG d = false := by
          cases d with
          | tuple ds =>
            match ds, h2 with
            | [], _ => rfl
            | [_], _ => rfl
            | [a, b], h =>
              have h : (isIntD a && isIntD b) = false := h
              show resOf a b = false
              cases a <;> first | rfl | (cases b <;> first | rfl | exact absurd h (by simp [isIntD]))
            | _ :: _ :: _ :: _, _ => rfl
          | int i => exact absurd h1 (by simp [isIntD])
          | _ => rfl
        rw [q] at k
        exact iteT k
      | true =>
        obtain ⟨a, b, rfl⟩ : ∃ a b, d = .tuple [.int a, .int b] := by
          cases d with
          | tuple ds =>
            match ds, h2 with
            | [a, b], h =>
              have h : (isIntD a && isIntD b) = true := h
              obtain ⟨ha, hb⟩ := (Bool.and_eq_true _ _).mp h
              obtain ⟨a, rfl⟩ : ∃ i, a = .int i := by cases a <;> first | exact ⟨_, rfl⟩ | exact absurd ha (by simp [isIntD])
              obtain ⟨b, rfl⟩ : ∃ i, b = .int i := by cases b <;> first | exact ⟨_, rfl⟩ | exact absurd hb (by simp [isIntD])
              exact ⟨a, b, rfl⟩
          | _ => exact absurd h2 (by simp [pairD])
        obtain ⟨t, y1, y2, rfl, hs, d1, d2⟩ : ∃ t y1 y2, v = .ref t ∧ SqT K H t [y1, y2] ∧ Dp K H y1 (.int a) ∧ Dp K H y2 (.int b) := by
          cases hd with
          | dp a b => cases a with
            | tup h1 h2 => cases h2 with
              | cons a b => cases b with
                | cons b c => cases c with
                  | nil => exact ⟨_, _, _, rfl, h1, a, b⟩
        cases d1
        cases d2
        have q : resG (.tuple [.int a, .int b]) = (decide (a = 1 ∧ b = 0) || (decide (0 ≤ a) && decide (a ≤ 1000000000000) && (decide (1 ≤ b) && decide (b ≤ 1000000000000)))) := rfl
        rw [q, ← eqv_open] at k
        refine iteF ⟨_, rfl, t, _, rfl, hs, rfl, _, _, rfl, _, _, rfl, rfl, ?_⟩
        refine ⟨_, rfl, .tuple [.int a, .int b], .tuple [.int 1, .int 0], .tup hs (.cons (.int _) (.cons (.int _) .nil)), .tup (.inr T.opn) (.cons (.int _) (.cons (.int _) .nil)), rfl, rfl, _, rfl, ?_⟩
        cases he : PyData.eqv (.tuple [.int a, .int b]) (.tuple [.int 1, .int 0]) with
        | true =>
          rw [he] at k
          exact iteT k
        | false =>
          rw [he] at k
          refine iteF ?_
          refine ⟨_, rfl, _, _, rfl, rfl, _, rfl, ite2 (fun h0 => ⟨_, _, rfl, rfl, _, rfl, ite2 (fun h1 => ?_) (fun h1 => ?_)⟩) (fun h0 => ⟨false, rfl, iteF ?_⟩)⟩
          · rw [show decide (0 ≤ a) = true from h0, show decide (a ≤ 1000000000000) = true from h1] at k
            refine ⟨_, rfl, _, _, rfl, rfl, _, rfl, ite2 (fun h2 => ⟨_, _, rfl, rfl, ?_⟩) (fun h2 => ?_)⟩
            · rw [show decide (1 ≤ b) = true from h2] at k
              exact k
            · rw [show decide (1 ≤ b) = false from Bool.eq_false_iff.mpr h2] at k
              exact k
          · rw [show decide (0 ≤ a) = true from h0, show decide (a ≤ 1000000000000) = false from Bool.eq_false_iff.mpr h1] at k
            exact k
          · rw [show decide (0 ≤ a) = false from Bool.eq_false_iff.mpr h0] at k
            exact k
end
/-! ### the checker's own -/
structure TxtA (K : PySem.W.Frag) (mg : Str → Option Value) (w : World) (tG t1 t3 tC tK : Tok) (aO aW aCh : Addr) : Prop extends Txt2 K mg tG aO where
  mgOh : mg "MOST_OHMS" = some (.int 12 t1)
  mgJo : mg "MOST_JOINED" = some (.int 8 t3)
  mgCo : mg "MOST_SECTIONS" = some (.int 100 tC)
  mgKi : mg "MOST_KINDS" = some (.int 4 tK)
  mgW : mg "WORDS" = some (.ref aW)
  wds : ∃ (o : Obj) (its : Array Value) (n : Nat), K.lookup aW = some o ∧ o.cls = .type "tuple" ∧ o.data = .seq its n ∧ its.size ≤ sizeLine ∧ Vals [.str (Str.ofString "rail"), .str (Str.ofString "rung")] its.toList
  mgCh : mg "CHECKS" = some (.ref aCh)
  any : mg "any" = none
  list_ : mg "list" = none
  chk : ∃ es n, KDict K w aCh es n
theorem same_of_but {D : Addr} {H H' : Hp} (b : But D H H') (n : H D = none) : Same H H' := fun x o e => b x o (ne_of_none e n) e
theorem but_upd {D : Addr} {H : Hp} {o : HO} (n : H D = none) : Same H (upd H D o) := same_upd n
def numOf : PyData → PyData → Bool
  | .int a, .int b => decide (a = 1 ∧ b = 0) || (decide (0 ≤ a) && decide (1 ≤ b))
  | _, _ => false
def numG : PyData → Bool
  | .int i => decide (0 ≤ i)
  | .tuple [a, b] => numOf a b
  | _ => false
def wordB (s : Str) : Bool := decide (s = Str.ofString "rail") || decide (s = Str.ofString "rung")
def pieceOf : PyData → PyData → Bool
  | .str s, o => wordB s && withinD o 1 12
  | _, _ => false
def pieceG : PyData → Bool
  | .tuple [a, b] => pieceOf a b
  | _ => false
def rowG : PyData → Bool
  | .tuple ds => decide (1 ≤ ds.length) && (decide (ds.length ≤ 8) && ds.all pieceG)
  | _ => false
def emptyG : PyData → Bool
  | .tuple [] => true
  | _ => false
theorem in_words (s : Str) : inV (V.str s) [.str (Str.ofString "rail"), .str (Str.ofString "rung")] = wordB s := by
  unfold wordB
  rw [Bool.eq_iff_iff]
  simp [inV]
  constructor
  · rintro (h | h)
    · exact .inl (eq_of_beq (show (Str.ofString "rail" == s) = true from h)).symm
    · exact .inr (eq_of_beq (show (Str.ofString "rung" == s) = true from h)).symm
  · rintro (rfl | rfl)
    · exact .inl (by decide +kernel)
    · exact .inr (by decide +kernel)
def spNumG (K : PySem.W.Frag) : Sp := fun vs H Q _ => ∃ (v : V) (d : PyData), vs = [v] ∧ Dq K H v d ∧ Q (.bl (numG d)) H
def spPieceG (K : PySem.W.Frag) : Sp := fun vs H Q _ => ∃ (v : V) (d : PyData), vs = [v] ∧ Dq K H v d ∧ Q (.bl (pieceG d)) H
def spRowG (K : PySem.W.Frag) : Sp := fun vs H Q _ => ∃ (v : V) (d : PyData), vs = [v] ∧ Dq K H v d ∧ ∀ H', Same H H' → Q (.bl (rowG d)) H'
def spEmptyG (K : PySem.W.Frag) : Sp := fun vs H Q _ => ∃ (v : V) (d : PyData), vs = [v] ∧ Dq K H v d ∧ Q (.bl (emptyG d)) H
def spCntG (K : PySem.W.Frag) : Sp := fun vs H Q _ => ∃ (v : V) (d : PyData), vs = [v] ∧ Dq K H v d ∧ Q (.bl (withinD d 0 100)) H
theorem dq_tup {K : PySem.W.Frag} {H : Hp} {v : V} {ds : List PyData} (h : Dq K H v (.tuple ds)) : ∃ t ys, v = .ref t ∧ SqT K H t ys ∧ DpAll K H ys ds ∧ PyData.hasDictAll ds = false := by
  cases h with
  | dp a b => cases a with
    | tup h1 h2 => exact ⟨_, _, rfl, h1, h2, b⟩
theorem dpAll_at {K : PySem.W.Frag} {H : Hp} : ∀ {ys : List V} {ds : List PyData}, DpAll K H ys ds → ∀ {i : Nat} {v : V}, ys[i]? = some v → ∃ d, ds[i]? = some d ∧ Dp K H v d
  | [], _, _, i, v, e => by simp at e
  | y :: ys, [], h, _, _, _ => by cases h
  | y :: ys, d :: ds, h, 0, v, e => by
    cases e
    cases h with
    | cons a b => exact ⟨_, rfl, a⟩
  | y :: ys, d :: ds, h, i + 1, v, e => by
    cases h with
    | cons a b => exact dpAll_at b e
theorem pair_cases {ds : List PyData} (h : pairD (.tuple ds) = true) : ∃ a b : Int, ds = [.int a, .int b] := by
  match ds, h with
  | [a, b], h =>
    have h : (isIntD a && isIntD b) = true := h
    obtain ⟨ha, hb⟩ := (Bool.and_eq_true _ _).mp h
    obtain ⟨a, rfl⟩ : ∃ i, a = .int i := by cases a <;> first | exact ⟨_, rfl⟩ | exact absurd ha (by simp [isIntD])
    obtain ⟨b, rfl⟩ : ∃ i, b = .int i := by cases b <;> first | exact ⟨_, rfl⟩ | exact absurd hb (by simp [isIntD])
    exact ⟨a, b, rfl⟩
theorem num_no {d : PyData} (h1 : isIntD d = false) (h2 : pairD d = false) : numG d = false := by
  cases d with
  | tuple ds =>
    match ds, h2 with
    | [], _ => rfl
    | [_], _ => rfl
    | [a, b], h =>
      have h : (isIntD a && isIntD b) = false := h
      show numOf a b = false
      cases a <;> first | rfl | (cases b <;> first | rfl | exact absurd h (by simp [isIntD]))
    | _ :: _ :: _ :: _, _ => rfl
  | int i => exact absurd h1 (by simp [isIntD])
  | _ => rfl
theorem take_snoc {α : Type} {l : List α} {i : Nat} {x : α} (h : l[i]? = some x) : l.take (i + 1) = l.take i ++ [x] := by
  rw [List.take_succ, h]
  rfl
section
variable {P : Program} {w : World} {K : PySem.W.Frag} {mg : Str → Option Value} {base : Heap} {tG t1 t3 tC tK : Tok} {aO aW aCh : Addr}
abbrev s_is_count : Stmt := top 10
theorem sc_is_count : FnScope ["value"] ["value"] (defScope s_is_count) := ⟨rfl, rfl, rfl, by decide +kernel, rfl, by decide +kernel, by decide +kernel⟩

theorem ok_countG {f : Addr} {fd : FuncData} (F : Fun K "is_count" "is_count" s_is_count f fd) (T : TxtA K mg w tG t1 t3 tC tK aO aW aCh) (D_is_integer_within : Df P w K mg base 2 "is_integer_within" ["value", "least", "most"] (spWithinG K)) : FnOk P w K mg base CX0 3 f fd ["value"] (spCntG K) := by
  refine F.ok sc_is_count (fun vs H Q E h => ?_) (fun cdv A outer s H vs Q E hr h => ?_)
  · obtain ⟨v, d, rfl, _⟩ := h
    rfl
  · obtain ⟨v, d, rfl, hd, k⟩ := h
    refine ⟨_, (pss_one (ps_ret (pe_df D_is_integer_within (hr.mono (by decide)) (by rfl) (pa_cons (pv 0) (pa_cons pe_int (pa_cons (pe_glob (v := .int 100) rfl T.mgCo ⟨_, rfl⟩) pa_nil)))))), ?_⟩
    exact ⟨_, rfl, v, d, 0, 100, rfl, hd, k⟩
abbrev s_is_number : Stmt := top 48
theorem sc_is_number : FnScope ["value"] ["value"] (defScope s_is_number) := ⟨rfl, rfl, rfl, by decide +kernel, rfl, by decide +kernel, by decide +kernel⟩

theorem ok_numG {f : Addr} {fd : FuncData} (F : Fun K "is_number" "is_number" s_is_number f fd) (T : TxtA K mg w tG t1 t3 tC tK aO aW aCh) (D_is_integer : Df P w K mg base 1 "is_integer" ["value"] (spIntG K)) (D_is_pair_of_integers : Df P w K mg base 2 "is_pair_of_integers" ["value"] (spPairG K)) : FnOk P w K mg base CX0 3 f fd ["value"] (spNumG K) := by
  refine F.ok sc_is_number (fun vs H Q E h => ?_) (fun cdv A outer s H vs Q E hr h => ?_)
  · obtain ⟨v, d, rfl, _⟩ := h
    rfl
  · obtain ⟨v, d, rfl, hd, k⟩ := h
    refine ⟨_, (pss_cons (ps_if (pt_val (pe_df D_is_integer (hr.mono (by decide)) (by rfl) (pa_cons (pv 0) pa_nil))) (pss_one (ps_ret (pe_cmpR op_ge (pv 0) pe_int (nomark _)))) pss_nil)
      (pss_one (ps_ret (pe_and (pe_df D_is_pair_of_integers (hr.mono (by decide)) (by rfl) (pa_cons (pv 0) pa_nil)) (pe_one (pe_or (pe_cmpR (op_eqD hr.units) (pv 0) (pe_glob (v := .ref aO) rfl T.mgO rfl) (nomark _)) (pe_one (pe_and (pe_cmpR op_ge (pe_ix ix_tup (pv 0) pe_int (fun _ _ => rfl)) pe_int (nomark _)) (pe_one (pe_cmpR op_ge (pe_ix ix_tup (pv 0) pe_int (fun _ _ => rfl)) pe_int (nomark _))))))))))), ?_⟩
    refine ⟨_, rfl, v, d, rfl, hd, _, rfl, ?_⟩
    cases h1 : isIntD d with
    | true =>
      obtain ⟨i, rfl⟩ : ∃ i, d = .int i := by cases d <;> first | exact ⟨_, rfl⟩ | exact absurd h1 (by simp [isIntD])
      have ev : v = .int i := by
        cases hd with
        | dp a b => cases a with
          | int i => rfl
      subst ev
      exact iteT ⟨_, rfl, _, _, rfl, rfl, k⟩
    | false =>
      refine iteF ⟨_, rfl, v, d, rfl, hd, _, rfl, ?_⟩
      cases h2 : pairD d with
      | false =>
        rw [num_no h1 h2] at k
        exact iteF k
      | true =>
        obtain ⟨ds, rfl⟩ : ∃ ds, d = .tuple ds := by
          cases d with
          | tuple ds => exact ⟨ds, rfl⟩
          | _ => exact absurd h2 (by simp [pairD])
        obtain ⟨a, b, rfl⟩ := pair_cases h2
        obtain ⟨t, ys, rfl, hs, hall, _⟩ := dq_tup hd
        obtain ⟨y1, y2, rfl, d1, d2⟩ : ∃ y1 y2, ys = [y1, y2] ∧ Dp K H y1 (.int a) ∧ Dp K H y2 (.int b) := by
          cases hall with
          | cons a b => cases b with
            | cons b c => cases c with
              | nil => exact ⟨_, _, rfl, a, b⟩
        cases d1
        cases d2
        have q : numG (.tuple [.int a, .int b]) = (decide (a = 1 ∧ b = 0) || (decide (0 ≤ a) && decide (1 ≤ b))) := rfl
        rw [q, ← eqv_open] at k
        refine iteT ⟨_, rfl, .tuple [.int a, .int b], .tuple [.int 1, .int 0], .tup hs (.cons (.int _) (.cons (.int _) .nil)), .tup (.inr T.opn) (.cons (.int _) (.cons (.int _) .nil)), rfl, rfl, _, rfl, ?_⟩
        cases he : PyData.eqv (.tuple [.int a, .int b]) (.tuple [.int 1, .int 0]) with
        | true =>
          rw [he] at k
          exact iteT k
        | false =>
          rw [he] at k
          refine iteF ⟨_, rfl, t, _, _, _, rfl, rfl, hs, atI_nat (j := 0) rfl, _, _, rfl, rfl, _, rfl, ite2 (fun h0 => ?_) (fun h0 => ?_)⟩
          · rw [show decide (0 ≤ a) = true from h0] at k
            exact ⟨_, rfl, t, _, _, _, rfl, rfl, hs, atI_nat (j := 1) rfl, _, _, rfl, rfl, k⟩
          · rw [show decide (0 ≤ a) = false from Bool.eq_false_iff.mpr h0] at k
            exact k
theorem ok_pieceG {f : Addr} {fd : FuncData} (F : Fun K "is_piece" "is_piece" s_is_piece f fd) (T : TxtA K mg w tG t1 t3 tC tK aO aW aCh) (D_is_integer_within : Df P w K mg base 2 "is_integer_within" ["value", "least", "most"] (spWithinG K)) : FnOk P w K mg base CX0 3 f fd ["value"] (spPieceG K) := by
  refine F.ok sc_is_piece (fun vs H Q E h => ?_) (fun cdv A outer s H vs Q E hr h => ?_)
  · obtain ⟨v, d, rfl, _⟩ := h
    rfl
  · obtain ⟨v, d, rfl, hd, k⟩ := h
    refine ⟨_, (pss_cons (ps_if (PW.pt (pw_or (pt_not (pt_val (pe_callB call_isi (by rfl) T.isinstance (by decide +kernel) (pa_cons (pv 0) (pa_cons (pe_bltn (v := .ty "tuple") (by rfl) T.tuple_ (by decide +kernel) rfl) pa_nil))))) (pw_or1 (pt_cmpR op_ne (pe_callB call_len_seq (by rfl) T.len (by decide +kernel) (pa_cons (pv 0) pa_nil)) pe_int (nomark _))))) (pss_one (ps_ret pe_bl)) pss_nil)
      (pss_cons (ps_asg (pv 0) (pg_tup rfl (pgs_cons (pg_name (i := 1) sc_is_piece.nd rfl (.inl rfl)) (pgs_cons (pg_name (i := 2) sc_is_piece.nd rfl (.inl rfl)) pgs_nil))))
      (pss_one (ps_ret (pe_and (pe_callB call_isi (by rfl) T.isinstance (by decide +kernel) (pa_cons (pv 1) (pa_cons (pe_bltn (v := .ty "str") (by rfl) T.str_ (by decide +kernel) rfl) pa_nil))) (pe_and (pe_cmpR op_in_seq (pv 1) (pe_glob (v := .ref aW) rfl T.mgW rfl) (by rfl)) (pe_one (pe_df D_is_integer_within (hr.mono (by decide)) (by rfl) (pa_cons (pv 2) (pa_cons pe_int (pa_cons (pe_glob (v := .int 12) rfl T.mgOh ⟨_, rfl⟩) pa_nil))))))))))), ?_⟩
    refine ⟨_, rfl, _, _, _, _, isTupD d, rfl, .ty _, ty_dq hd, kit_tup d, _, rfl, ?_⟩
    cases h1 : isTupD d with
    | false =>
      have e : pieceG d = false := by cases d <;> first | rfl | exact absurd h1 (by simp [isTupD])
      rw [e] at k
      exact iteT k
    | true =>
      obtain ⟨ds, rfl⟩ : ∃ ds, d = .tuple ds := by cases d <;> first | exact ⟨_, rfl⟩ | exact absurd h1 (by simp [isTupD])
      obtain ⟨t, ys, rfl, hs, hall, hnd⟩ := dq_tup hd
      have el := dpAll_len hall
      refine iteF ⟨_, rfl, t, _, rfl, .inr hs, rfl, _, rfl, ite2 (fun e => ?_) (fun e => ?_)⟩
      · have nl : ds.length ≠ 2 := fun z => by
          rw [el, z] at e
          exact absurd e (by decide)
        have e : pieceG (.tuple ds) = false := by
          match ds, nl with
          | [], _ => rfl
          | [_], _ => rfl
          | [_, _], n => exact absurd rfl n
          | _ :: _ :: _ :: _, _ => rfl
        rw [e] at k
        exact k
      · have l2 : ds.length = 2 := by
          have e2 : decide (V.int (ys.length : Int) = V.int 2) = true := by
            cases hh : decide (V.int (ys.length : Int) = V.int 2) with
            | true => rfl
            | false =>
              rw [hh] at e
              exact absurd rfl e
          have := V.int.inj (of_decide_eq_true e2)
          omega
        match ds, l2, hall, k, hnd with
        | [x, o], _, hall, k, hnd =>
        obtain ⟨y1, y2, rfl, d1, d2⟩ : ∃ y1 y2, ys = [y1, y2] ∧ Dp K H y1 x ∧ Dp K H y2 o := by
          cases hall with
          | cons a b => cases b with
            | cons b c => cases c with
              | nil => exact ⟨_, _, rfl, a, b⟩
        have nd : x.hasDict = false ∧ o.hasDict = false := by simpa [PyData.hasDictAll] using hnd
        refine ⟨_, rfl, t, _, rfl, hs, rfl, _, _, rfl, _, _, rfl, rfl, ?_⟩
        refine ⟨_, rfl, _, _, _, _, isStrD x, rfl, .ty _, ty_dp d1, kit_str x, _, rfl, ?_⟩
        cases h3 : isStrD x with
        | false =>
          have e : pieceG (.tuple [x, o]) = false := by cases x <;> first | rfl | exact absurd h3 (by simp [isStrD])
          rw [e] at k
          exact iteF k
        | true =>
          obtain ⟨s, rfl⟩ : ∃ s, x = .str s := by cases x <;> first | exact ⟨_, rfl⟩ | exact absurd h3 (by simp [isStrD])
          cases d1
          have q : pieceG (.tuple [.str s, o]) = (wordB s && withinD o 1 12) := rfl
          rw [q] at k
          refine iteT ⟨_, rfl, aW, _, rfl, .inr (.inr T.wds), rfl, rfl, _, congrArg V.bl (in_words s), ?_⟩
          cases h4 : wordB s with
          | false =>
            rw [h4] at k
            exact iteF k
          | true =>
            rw [h4] at k
            exact iteT ⟨_, rfl, y2, o, 1, 12, rfl, .dp d2 nd.2, k⟩
abbrev s_is_row : Stmt := top 49
theorem sc_is_row : FnScope ["value", "piece"] ["value"] (defScope s_is_row) := ⟨rfl, rfl, rfl, by decide +kernel, rfl, by decide +kernel, by decide +kernel⟩

theorem ok_rowG {f : Addr} {fd : FuncData} (F : Fun K "is_row" "is_row" s_is_row f fd) (T : TxtA K mg w tG t1 t3 tC tK aO aW aCh) (D_is_piece : Df P w K mg base 3 "is_piece" ["value"] (spPieceG K)) : FnOk P w K mg base CX0 4 f fd ["value"] (spRowG K) := by
  refine F.ok sc_is_row (fun vs H Q E h => ?_) (fun cdv A outer s H vs Q E hr h => ?_)
  · obtain ⟨v, d, rfl, _⟩ := h
    rfl
  · obtain ⟨v, d, rfl, hd, k⟩ := h
    refine ⟨_, (pss_cons (ps_if (PW.pt (pw_or (pt_not (pt_val (pe_callB call_isi (by rfl) T.isinstance (by decide +kernel) (pa_cons (pv 0) (pa_cons (pe_bltn (v := .ty "tuple") (by rfl) T.tuple_ (by decide +kernel) rfl) pa_nil))))) (pw_or (pt_cmpR op_lt (pe_callB call_len_seq (by rfl) T.len (by decide +kernel) (pa_cons (pv 0) pa_nil)) pe_int (nomark _)) (pw_or1 (pt_cmpR op_gt (pe_callB call_len_seq (by rfl) T.len (by decide +kernel) (pa_cons (pv 0) pa_nil)) (pe_glob (v := .int 8) rfl T.mgJo ⟨_, rfl⟩) (nomark _)))))) (pss_one (ps_ret pe_bl)) pss_nil)
      (pss_one (ps_ret (pe_callB (cr_all rfl) (by rfl) T.all (by decide +kernel) (pa_cons (pe_lc (own := [("piece", 1)]) (g := gName 1) (tt := tYes) rfl sc_is_row.nd (pi_tup (pv 0)) (blkOk_by (N := ["value", "piece"]) (sc := defScope s_is_row) (by decide +kernel)) (fun _ _ _ _ _ => pg_name (i := 1) sc_is_row.nd rfl (Or.inl rfl)) (fun _ _ _ _ _ => pts_nil) (fun _ _ _ _ _ => (pe_df D_is_piece (hr.mono (by decide)) (by rfl) (pa_cons (pv 1) pa_nil)))) pa_nil))))), ?_⟩
    refine ⟨_, rfl, _, _, _, _, isTupD d, rfl, .ty _, ty_dq hd, kit_tup d, _, rfl, ?_⟩
    cases h1 : isTupD d with
    | false =>
      have e : rowG d = false := by cases d <;> first | rfl | exact absurd h1 (by simp [isTupD])
      rw [e] at k
      exact iteT (k _ (Same.refl _))
    | true =>
      obtain ⟨ds, rfl⟩ : ∃ ds, d = .tuple ds := by cases d <;> first | exact ⟨_, rfl⟩ | exact absurd h1 (by simp [isTupD])
      obtain ⟨t, ys, rfl, hs, hall, hnd⟩ := dq_tup hd
      have el := dpAll_len hall
      have q : rowG (.tuple ds) = (decide (1 ≤ ds.length) && (decide (ds.length ≤ 8) && ds.all pieceG)) := rfl
      rw [q] at k
      refine iteF ⟨_, rfl, t, _, rfl, .inr hs, _, _, rfl, rfl, _, rfl, ite2 (fun e => ?_) (fun e => ?_)⟩
      · have := of_decide_eq_true e
        rw [decide_eq_false (show ¬ 1 ≤ ds.length by omega)] at k
        exact k _ (Same.refl _)
      have l1 : ¬ ((ys.length : Int) < 1) := fun z => e (decide_eq_true z)
      rw [decide_eq_true (show 1 ≤ ds.length by omega), Bool.true_and] at k
      refine ⟨_, rfl, t, _, rfl, .inr hs, _, _, rfl, rfl, _, rfl, ite2 (fun e => ?_) (fun e => ?_)⟩
      · have := of_decide_eq_true e
        rw [decide_eq_false (show ¬ ds.length ≤ 8 by omega)] at k
        exact k _ (Same.refl _)
      have l8 : ¬ (8 < (ys.length : Int)) := fun z => e (decide_eq_true z)
      rw [decide_eq_true (show ds.length ≤ 8 by omega), Bool.true_and] at k
      refine ⟨_, rfl, t, rfl, ⟨_, hs⟩, fun D hD => ?_⟩
      refine lc_tup (K := K) (a := t) (xs := ys) (fun i H' => Same H H' ∧ H' D = some (.lst (((ds.take i).map pieceG).map V.bl))) ⟨same_upd hD, upd_same⟩ (fun i H' _ h => sqT_same h.1 hs) ?_ ?_
      · rintro i y H' hy ⟨sD, hDi⟩
        obtain ⟨d, hd', hdp⟩ := dpAll_at hall hy
        have il : i < ds.length := (List.getElem?_eq_some_iff.mp hd').1
        refine ⟨rfl, ?_⟩
        unfold tYes
        refine iteT ?_
        refine ⟨_, rfl, _, d, rfl, (Dq.dp hdp (hda_at hnd hd')).same sD, _, hDi, ?_, ?_, ?_⟩
        · rw [List.length_map, List.length_map, List.length_take]
          exact small1000 (by omega)
        · intro q o e
          rw [upd_ne (ne_of_none e hD)]
          exact sD _ _ e
        · rw [upd_same, take_snoc hd', List.map_append, List.map_append]
          rfl
      · rintro H' ⟨sD, hDn⟩
        refine ⟨D, _, rfl, SqL.of hDn, ?_⟩
        rw [el, List.take_length, List.all_map]
        exact k _ sD
end
end RL

/-! When two rows show the same: their four fractions. -/
namespace RL
theorem step_det (m : Mx) (p : Pc) : (stepM m p).a * (stepM m p).d - (stepM m p).b * (stepM m p).c = (if p.1 = true then 1 else p.2 * p.2) * (m.a * m.d - m.b * m.c) := by
  unfold stepM
  split <;> dsimp <;> grind
theorem fold_det (r : List Pc) : ∀ (m : Mx) (s : Int), m.a * m.d - m.b * m.c = s * s → (r.foldl stepM m).a * (r.foldl stepM m).d - (r.foldl stepM m).b * (r.foldl stepM m).c = (r.foldl stepS s) * (r.foldl stepS s) := by
  induction r with
  | nil => exact fun _ _ h => h
  | cons p r ih =>
    intro m s h
    rw [List.foldl_cons, List.foldl_cons]
    refine ih _ _ ?_
    rw [step_det, h]
    unfold stepS
    split
    · omega
    · grind
theorem matR_det (r : List Pc) : (matR r).a * (matR r).d - (matR r).b * (matR r).c = sclR r * sclR r := fold_det r m1 1 (by decide)
theorem low_cross {x y : Int × Int} (hx : Pos2 x) (hy : Pos2 y) (h : low x = low y) : ∃ g k : Int, 0 < g ∧ 0 < k ∧ sc k x = sc g y := by
  refine ⟨gc x.1 x.2, gc y.1 y.2, gc_pos2 hx, gc_pos2 hy, ?_⟩
  have e1 := low_is hx
  have e2 := low_is hy
  rw [h] at e1
  generalize gc x.1 x.2 = g at *
  generalize gc y.1 y.2 = k at *
  generalize low y = l at *
  rw [e1, e2]
  unfold sc
  ext <;> dsimp <;> grind
theorem sq_eq {x y : Int} (hx : 0 < x) (hy : 0 < y) (h : x * x = y * y) : x = y := by
  have e : (x - y) * (x + y) = 0 := by grind
  rcases Int.mul_eq_zero.mp e with z | z <;> omega
/-- shown alike in front of three loads: the maps are alike but for a factor -/
theorem three {A B C D s A' B' C' D' s' g1 k1 g2 k2 : Int} (hs : 0 < s) (hs' : 0 < s') (hg1 : 0 < g1) (hk1 : 0 < k1) (hg2 : 0 < g2) (hk2 : 0 < k2) (d : A * D - B * C = s * s) (d' : A' * D' - B' * C' = s' * s')
    (a1 : k1 * A = g1 * A') (c1 : k1 * C = g1 * C') (b2 : k2 * B = g2 * B') (d2 : k2 * D = g2 * D') (h3 : (A + B) * (C' + D') = (A' + B') * (C + D)) :
    A * s' = A' * s ∧ B * s' = B' * s ∧ C * s' = C' * s ∧ D * s' = D' * s := by
  have hss : 0 < s * s := Int.mul_pos hs hs
  have e1 : g2 * k1 * (s * s) = g1 * k2 * (s * s) := by
    have : g1 * g2 * ((A + B) * (C' + D')) = g1 * g2 * ((A' + B') * (C + D)) := by rw [h3]
    have l : g1 * g2 * ((A + B) * (C' + D')) = (A + B) * (g2 * (g1 * C') + g1 * (g2 * D')) := by grind
    have r : g1 * g2 * ((A' + B') * (C + D)) = (g2 * (g1 * A') + g1 * (g2 * B')) * (C + D) := by grind
    rw [l, r, ← c1, ← d2, ← a1, ← b2] at this
    rw [← d]
    grind
  have e2 : g2 * k1 = g1 * k2 := Int.eq_of_mul_eq_mul_right (by omega) e1
  have e3 : g1 * g2 * (s' * s') = k1 * k2 * (s * s) := by
    rw [← d, ← d']
    have : g1 * g2 * (A' * D' - B' * C') = (g1 * A') * (g2 * D') - (g2 * B') * (g1 * C') := by grind
    rw [this, ← a1, ← d2, ← b2, ← c1]
    grind
  have e4 : g2 * ((g1 * s') * (g1 * s')) = g2 * ((k1 * s) * (k1 * s)) := by
    have l : g2 * ((g1 * s') * (g1 * s')) = g1 * (g1 * g2 * (s' * s')) := by grind
    have r : g2 * ((k1 * s) * (k1 * s)) = (g2 * k1) * k1 * (s * s) := by grind
    rw [l, r, e3, e2]
    grind
  have e5 : (g1 * s') * (g1 * s') = (k1 * s) * (k1 * s) := Int.eq_of_mul_eq_mul_left (by omega) e4
  have e6 : g1 * s' = k1 * s := sq_eq (Int.mul_pos hg1 hs') (Int.mul_pos hk1 hs) e5
  have e7 : g2 * s' = k2 * s := by
    refine Int.eq_of_mul_eq_mul_left (a := g1) (by omega) ?_
    have l : g1 * (g2 * s') = g2 * (g1 * s') := by grind
    have r : g1 * (k2 * s) = (g1 * k2) * s := by grind
    rw [l, r, e6, ← e2]
    grind
  have fin : ∀ {g k X X' : Int}, 0 < g → k * X = g * X' → g * s' = k * s → X * s' = X' * s := fun {g k X X'} hg h1 h2 => by
    refine Int.eq_of_mul_eq_mul_left (a := g) (by omega) ?_
    have l : g * (X * s') = X * (g * s') := by grind
    have r : g * (X' * s) = (g * X') * s := by grind
    rw [l, r, h2, ← h1]
    grind
  exact ⟨fin hg1 a1 e6, fin hg2 b2 e7, fin hg1 c1 e6, fin hg2 d2 e7⟩
def fourOf (r : List Pc) : (Int × Int) × (Int × Int) × (Int × Int) × (Int × Int) := (low ((matR r).a, sclR r), low ((matR r).b, sclR r), low ((matR r).c, sclR r), low ((matR r).d, sclR r))
theorem low_frac_iff {x s x' s' : Int} (hs : 0 < s) (hs' : 0 < s') (h : x * s' = x' * s) : low (x, s) = low (x', s') := by
  obtain ⟨e1, e2⟩ := low_eq hs hs' h
  unfold low
  ext
  · exact e2
  · exact e1
theorem low_frac_back {x s x' s' : Int} (hs : 0 < s) (hs' : 0 < s') (h : low (x, s) = low (x', s')) : x * s' = x' * s := by
  have a := low_frac (x := x) hs
  have b := low_frac (x := x') hs'
  have h1 : x / gc x s = x' / gc x' s' := congrArg Prod.fst h
  have h2 : s / gc x s = s' / gc x' s' := congrArg Prod.snd h
  rw [← h1, ← h2] at b
  obtain ⟨a0, a1⟩ := a
  obtain ⟨b0, b1⟩ := b
  generalize x / gc x s = u at *
  generalize s / gc x s = v at *
  refine Int.eq_of_mul_eq_mul_left (a := v) (by omega) ?_
  have l : v * (x * s') = (v * x) * s' := by grind
  have r : v * (x' * s) = (v * x') * s := by grind
  rw [l, r, ← a1, ← b1]
  grind
/-- the same four fractions: the same shown in front of every load -/
theorem four_shows {r r' : List Pc} {e : Int × Int} (hr : RowOk r) (hr' : RowOk r') (h : fourOf r = fourOf r') : low ((matR r).app e) = low ((matR r').app e) := by
  have s0 := sclR_pos hr
  have s0' := sclR_pos hr'
  unfold fourOf at h
  simp only [Prod.mk.injEq] at h
  obtain ⟨h1, h2, h3, h4⟩ := h
  have a := low_frac_back s0 s0' h1
  have b := low_frac_back s0 s0' h2
  have c := low_frac_back s0 s0' h3
  have d := low_frac_back s0 s0' h4
  rw [← low_sc s0', ← low_sc s0 ((matR r').app e)]
  congr 1
  unfold sc Mx.app
  ext
  · dsimp
    grind
  · dsimp
    grind
/-- shown alike in front of 0, 1 and an open end: the same four fractions -/
theorem shows_four {r r' : List Pc} (hr : RowOk r) (hr' : RowOk r') (h0 : low ((matR r).app (0, 1)) = low ((matR r').app (0, 1))) (h1 : low ((matR r).app (1, 1)) = low ((matR r').app (1, 1))) (h2 : low ((matR r).app (1, 0)) = low ((matR r').app (1, 0))) : fourOf r = fourOf r' := by
  have p0 : Pos2 (0, 1) := ⟨by decide, by decide, .inr (by decide)⟩
  have p1 : Pos2 (1, 1) := ⟨by decide, by decide, .inr (by decide)⟩
  have p2 : Pos2 (1, 0) := ⟨by decide, by decide, .inl (by decide)⟩
  obtain ⟨g2, k2, hg2, hk2, e2⟩ := low_cross (app_pos hr p0) (app_pos hr' p0) h0
  obtain ⟨g1, k1, hg1, hk1, e1⟩ := low_cross (app_pos hr p2) (app_pos hr' p2) h2
  obtain ⟨g3, k3, hg3, hk3, e3⟩ := low_cross (app_pos hr p1) (app_pos hr' p1) h1
  unfold sc Mx.app at e1 e2 e3
  simp only [Prod.mk.injEq, Int.mul_zero, Int.mul_one, Int.zero_add, Int.add_zero] at e1 e2 e3
  have s0 := sclR_pos hr
  have s0' := sclR_pos hr'
  have cr : ((matR r).a + (matR r).b) * ((matR r').c + (matR r').d) = ((matR r').a + (matR r').b) * ((matR r).c + (matR r).d) := by
    obtain ⟨x1, x2⟩ := e3
    refine Int.eq_of_mul_eq_mul_left (a := k3 * g3) (by have := Int.mul_pos hk3 hg3; omega) ?_
    have l : k3 * g3 * (((matR r).a + (matR r).b) * ((matR r').c + (matR r').d)) = (k3 * ((matR r).a + (matR r).b)) * (g3 * ((matR r').c + (matR r').d)) := by grind
    have r0 : k3 * g3 * (((matR r').a + (matR r').b) * ((matR r).c + (matR r).d)) = (g3 * ((matR r').a + (matR r').b)) * (k3 * ((matR r).c + (matR r).d)) := by grind
    rw [l, r0, x1, x2]
  obtain ⟨fa, fb, fc, fd⟩ := three s0 s0' hg1 hk1 hg2 hk2 (matR_det r) (matR_det r') e1.1 e1.2 e2.1 e2.2 cr
  unfold fourOf
  rw [low_frac_iff s0 s0' fa, low_frac_iff s0 s0' fb, low_frac_iff s0 s0' fc, low_frac_iff s0 s0' fd]
end RL

/-! Limits of ladders: their equations, fixed points. -/
namespace RL
/-! ### a closer bound of a row's map -/
def MxLe (N : Int) (m : Mx) : Prop := 0 ≤ m.a ∧ m.a ≤ N ∧ 0 ≤ m.b ∧ m.b ≤ N ∧ 0 ≤ m.c ∧ m.c ≤ N ∧ 0 ≤ m.d ∧ m.d ≤ N
theorem step_le {m : Mx} {p : Pc} {N : Int} (hp : PcOk p) (h : MxLe N m) : MxLe (13 * N) (stepM m p) := by
  obtain ⟨a0, a1, b0, b1, c0, c1, d0, d1⟩ := h
  obtain ⟨o1, o2⟩ := hp
  have up : ∀ x : Int, 0 ≤ x → x ≤ N → 0 ≤ x * p.2 ∧ x * p.2 ≤ 12 * N := fun x h0 h1 => by
    refine ⟨Int.mul_nonneg h0 (by omega), ?_⟩
    have e1 : x * p.2 ≤ x * 12 := Int.mul_le_mul_of_nonneg_left o2 h0
    omega
  have ua := up _ a0 a1
  have ub := up _ b0 b1
  have uc := up _ c0 c1
  have ud := up _ d0 d1
  unfold stepM MxLe
  split <;> (dsimp only; omega)
theorem fold_le {r : List Pc} : ∀ {m : Mx} {N : Int}, RowOk r → MxLe N m → MxLe (13 ^ r.length * N) (r.foldl stepM m) := by
  induction r with
  | nil =>
    intro m N _ h
    show MxLe (13 ^ 0 * N) m
    rw [Int.pow_zero, Int.one_mul]
    exact h
  | cons p r ih =>
    intro m N hr h
    have := ih hr.tail (step_le hr.head h)
    rw [List.foldl_cons, show (p :: r).length = r.length + 1 from rfl, Int.pow_succ]
    rw [← Int.mul_assoc] at this
    exact this
theorem matR_le {r : List Pc} (hr : RowOk r) (l8 : r.length ≤ 8) : MxLe 815730721 (matR r) := by
  have h := fold_le (N := 1) hr (m := m1) ⟨by decide, by decide, by decide, by decide, by decide, by decide, by decide, by decide⟩
  have e : (13 : Int) ^ r.length * 1 ≤ 815730721 := by
    rw [Int.mul_one]
    have e8 : (13 : Int) ^ 8 = 815730721 := by decide
    rw [← e8]
    have h8 : (13 : Nat) ^ r.length ≤ 13 ^ 8 := Nat.pow_le_pow_right (by decide) l8
    have c1 : ((13 ^ r.length : Nat) : Int) = (13 : Int) ^ r.length := by rw [Int.natCast_pow]; rfl
    have c2 : ((13 ^ 8 : Nat) : Int) = (13 : Int) ^ 8 := by decide
    rw [← c1, ← c2]
    exact Int.ofNat_le.mpr h8
  obtain ⟨a0, a1, b0, b1, c0, c1, d0, d1⟩ := h
  exact ⟨a0, Int.le_trans a1 e, b0, Int.le_trans b1 e, c0, Int.le_trans c1 e, d0, Int.le_trans d1 e⟩
theorem sm30 {x : Int} (h0 : 0 ≤ x) (h1 : x ≤ 815730721) : Sm 30 x := by
  unfold Sm
  omega
theorem matR_sm30 {r : List Pc} (hr : RowOk r) (l8 : r.length ≤ 8) : MxSm 30 (matR r) := by
  obtain ⟨a0, a1, b0, b1, c0, c1, d0, d1⟩ := matR_le hr l8
  exact ⟨sm30 a0 a1, sm30 b0 b1, sm30 c0 c1, sm30 d0 d1⟩
/-! ### the equation of the limit -/
def eqL (r : List Pc) : Int × Int × Int := if (matR r).b = 0 then (0, 1, 0) else parts (matR r).c ((matR r).d - (matR r).a) (matR r).b
theorem eqL_good {r : List Pc} (hr : RowOk r) (hc : (matR r).c ≠ 0) : Good (eqL r).1 (eqL r).2.1 (eqL r).2.2 := by
  unfold eqL
  obtain ⟨a0, b0, c0, d0, _⟩ := matR_ok hr
  split
  · exact .inl ⟨rfl, by decide, by decide⟩
  · rename_i z
    exact (parts_nrm (.inr ⟨by omega, by omega⟩)).good
theorem dvd_cop {t c u : Int} (h : t ∣ c * u) (g : Int.gcd t u = 1) : t ∣ c := by
  have h1 : t.natAbs ∣ c.natAbs * u.natAbs := by
    rw [← Int.natAbs_mul]
    exact Int.natAbs_dvd_natAbs.mpr h
  exact Int.natAbs_dvd_natAbs.mp (Nat.Coprime.dvd_of_dvd_mul_right g h1)
theorem coprime_low {p q : Int} (h : 0 < gc p q) : gc (p / gc p q) (q / gc p q) = 1 := by
  have e1 := ex_mul (gc_dvd1 p q) h
  have e2 := ex_mul (gc_dvd2 p q) h
  have e := gc_mul (k := gc p q) (a := p / gc p q) (b := q / gc p q) (Int.le_of_lt h)
  rw [← e1, ← e2] at e
  generalize gc (p / gc p q) (q / gc p q) = y at *
  generalize gc p q = g at *
  have : g * 1 = g * y := by omega
  exact (Int.eq_of_mul_eq_mul_left (by omega) this).symm
/-- a limit that is a fraction -/
theorem parts_frac {a b c : Int} (ha : 1 ≤ a) (hc : 1 ≤ c) (h0 : (parts a b c).1 = 0) : 1 ≤ (parts a b c).2.1 ∧ 1 ≤ (parts a b c).2.2 ∧ (parts a b c).2.2 ≤ c ∧ gc (parts a b c).2.2 (parts a b c).2.1 = 1 ∧
    a * (parts a b c).2.2 * (parts a b c).2.2 + b * (parts a b c).2.2 * (parts a b c).2.1 = c * (parts a b c).2.1 * (parts a b c).2.1 := by
  have N := parts_nrm (a := a) (b := b) (c := c) (.inr ⟨ha, hc⟩)
  have co : gc (parts a b c).2.2 (parts a b c).2.1 = 1 := by
    unfold parts at h0 ⊢
    rw [if_neg (by omega)] at h0 ⊢
    split
    · exact coprime_low (gc_pos (.inr (by omega)))
    · rename_i z
      rw [if_neg z] at h0
      have g0 : 0 < gc (gc a b) c := gc_pos (.inr (by omega))
      have d : gc (gc a b) c ∣ a := Int.dvd_trans (gc_dvd1 _ _) (gc_dvd1 _ _)
      have e := ex_mul d g0
      replace h0 : a / gc (gc a b) c = 0 := h0
      rw [h0] at e
      omega
  have G := N.good
  rw [h0] at G
  obtain ⟨l1, w0⟩ : 1 ≤ (parts a b c).2.1 ∧ 0 ≤ (parts a b c).2.2 := by
    rcases G with g | g
    · exact g.2
    · omega
  have sg := (N.sgn (parts a b c).2.2 (parts a b c).2.1 w0 l1).2
  rw [h0] at sg
  generalize (parts a b c).2.1 = u at *
  generalize (parts a b c).2.2 = t at *
  have e0 : a * t * t + b * t * u - c * u * u = 0 := sg.mp (by grind)
  have e1 : a * t * t + b * t * u = c * u * u := by omega
  have t0 : t ≠ 0 := fun z => by
    subst z
    have : 0 < c * u * u := Int.mul_pos (Int.mul_pos (by omega) (by omega)) (by omega)
    have z1 : a * 0 * 0 + b * 0 * u = 0 := by grind
    omega
  refine ⟨l1, by omega, ?_, co, e1⟩
  have dv : t ∣ c * u * u := ⟨a * t + b * u, by rw [← e1]; grind⟩
  have g1 : Int.gcd t u = 1 := by
    unfold gc at co
    omega
  have dv2 : t ∣ c * u := dvd_cop dv g1
  have dv3 : t ∣ c := dvd_cop dv2 g1
  exact Int.le_of_dvd (by omega) dv3
/-- in front of its limit a ladder stays -/
theorem fixed {m : Mx} {t u : Int} (h : m.c * t * t + (m.d - m.a) * t * u = m.b * u * u) : (m.app (t, u)).1 * u = t * (m.app (t, u)).2 := by
  unfold Mx.app
  dsimp only
  grind
/-- the whole walk -/
def appN (m : Mx) : Nat → Int × Int → Int × Int
  | 0, e => e
  | n + 1, e => m.app (appN m n e)
theorem appN_pos {r : List Pc} {e : Int × Int} (hr : RowOk r) (h : Pos2 e) : ∀ n, Pos2 (appN (matR r) n e)
  | 0 => h
  | n + 1 => app_pos hr (appN_pos hr h n)
theorem appN_sm {r : List Pc} {e : Int × Int} {k : Nat} (hr : RowOk r) (l8 : r.length ≤ 8) (h1 : Sm k e.1) (h2 : Sm k e.2) : ∀ n, Sm (k + 31 * n) (appN (matR r) n e).1 ∧ Sm (k + 31 * n) (appN (matR r) n e).2
  | 0 => ⟨h1, h2⟩
  | n + 1 => by
    obtain ⟨i1, i2⟩ := appN_sm hr l8 h1 h2 n
    have := app_sm (matR_sm30 hr l8) i1 i2
    have e : k + 31 * (n + 1) = 30 + (k + 31 * n) + 1 := by omega
    rw [e]
    exact this
theorem low_cross' {x y : Int × Int} (hx : Pos2 x) (hy : Pos2 y) (h : x.1 * y.2 = y.1 * x.2) : low x = low y := by
  by_cases hz : y.2 = 0
  · have y1 : 0 < y.1 := by have := hy.2.2; omega
    have x2 : x.2 = 0 := by
      rw [hz, Int.mul_zero] at h
      rcases Int.mul_eq_zero.mp h.symm with z | z <;> omega
    have x1 : 0 < x.1 := by have := hx.2.2; omega
    have lz : ∀ z : Int × Int, 0 < z.1 → z.2 = 0 → low z = (1, 0) := fun z h1 h2 => by
      have e : z = sc z.1 (1, 0) := by
        unfold sc
        ext
        · dsimp
          omega
        · dsimp
          omega
      rw [e, low_sc h1]
      decide
    rw [lz x x1 x2, lz y y1 hz]
  · have y2 : 0 < y.2 := by have := hy.2.1; omega
    by_cases hz' : x.2 = 0
    · exfalso
      have x1 : 0 < x.1 := by have := hx.2.2; omega
      rw [hz', Int.mul_zero] at h
      have := Int.mul_pos x1 y2
      omega
    · have x2 : 0 < x.2 := by have := hx.2.1; omega
      exact low_frac_iff (x := x.1) (s := x.2) (x' := y.1) (s' := y.2) x2 y2 h
/-- .. for ever -/
theorem appN_fixed {r : List Pc} {t u : Int} (hr : RowOk r) (hp : Pos2 (t, u)) (h : (matR r).c * t * t + ((matR r).d - (matR r).a) * t * u = (matR r).b * u * u) : ∀ n, low (appN (matR r) n (t, u)) = low (t, u)
  | 0 => rfl
  | n + 1 => by
    have ih := appN_fixed hr hp h n
    have p := appN_pos hr hp n
    obtain ⟨g, k, hg, hk, e⟩ := low_cross p hp ih
    have e2 : low (sc k ((matR r).app (appN (matR r) n (t, u)))) = low (sc g ((matR r).app (t, u))) := by
      have ap : ∀ (m : Mx) (j : Int) (z : Int × Int), sc j (m.app z) = m.app (sc j z) := fun m j z => by
        unfold sc Mx.app
        ext <;> dsimp <;> grind
      rw [ap, ap, e]
    rw [low_sc hk, low_sc hg] at e2
    show low ((matR r).app (appN (matR r) n (t, u))) = _
    rw [e2]
    exact low_cross' (app_pos hr hp) hp (fixed h)
theorem goes_fixed {m : Mx} {t u : Int} (h : m.c * t * t + (m.d - m.a) * t * u = m.b * u * u) : sg ((m.app (t, u)).1 * u - t * (m.app (t, u)).2) = 0 := by
  rw [fixed h, Int.sub_self]
  rfl
end RL

set_option maxHeartbeats 2000000
namespace RL
open PySem L2 PySem.Spec PyProof.Rows
/-! ### rows and numbers as data -/
def PairAt (H : Hp) (a : Addr) (e : Int × Int) : Prop := H a = some (.tup [.int e.1, .int e.2])
def pcOf2 : PyData → PyData → Pc
  | .str s, .int n => (decide (s = Str.ofString "rail"), n)
  | _, _ => (true, 1)
def pcOf : PyData → Pc
  | .tuple [a, b] => pcOf2 a b
  | _ => (true, 1)
def rowOf : PyData → List Pc
  | .tuple ds => ds.map pcOf
  | _ => []
def prOf2 : PyData → PyData → Int × Int
  | .int a, .int b => (a, b)
  | _, _ => (0, 1)
def prOf : PyData → Int × Int
  | .int i => (i, 1)
  | .tuple [a, b] => prOf2 a b
  | _ => (0, 1)
def cntOf : PyData → Nat
  | .int i => i.toNat
  | _ => 0
theorem int_of {d : PyData} (h : isIntD d = true) : ∃ i, d = .int i := by
  cases d <;> first | exact ⟨_, rfl⟩ | exact absurd h (by simp [isIntD])
theorem within_of {d : PyData} {lo hi : Int} (h : withinD d lo hi = true) : ∃ i, d = .int i ∧ lo ≤ i ∧ i ≤ hi := by
  cases d with
  | int i =>
    have h : (decide (lo ≤ i) && decide (i ≤ hi)) = true := h
    simp only [Bool.and_eq_true, decide_eq_true_eq] at h
    exact ⟨i, rfl, h.1, h.2⟩
  | _ => exact absurd h (by simp [withinD])
theorem piece_of {d : PyData} (h : pieceG d = true) : ∃ s n, d = .tuple [.str s, .int n] ∧ wd (pcOf d).1 = s ∧ (pcOf d).2 = n ∧ PcOk (pcOf d) := by
  cases d with
  | tuple ds =>
    match ds, h with
    | [a, b], h =>
      have h : pieceOf a b = true := h
      cases a with
      | str s =>
        have h : (wordB s && withinD b 1 12) = true := h
        obtain ⟨h1, h2⟩ := (Bool.and_eq_true _ _).mp h
        obtain ⟨i, rfl, l, u⟩ := within_of h2
        refine ⟨s, i, rfl, ?_, rfl, l, u⟩
        show wd (decide (s = Str.ofString "rail")) = s
        by_cases e : s = Str.ofString "rail"
        · rw [decide_eq_true e, e]
          rfl
        · unfold wordB at h1
          rw [decide_eq_false e, Bool.false_or] at h1
          rw [decide_eq_false e, of_decide_eq_true h1]
          rfl
      | _ => exact absurd h (by simp [pieceOf])
    | [], h => exact absurd h (by simp [pieceG])
    | [_], h => exact absurd h (by simp [pieceG])
    | _ :: _ :: _ :: _, h => exact absurd h (by simp [pieceG])
  | _ => exact absurd h (by simp [pieceG])
theorem row_parts {ds : List PyData} (h : rowG (.tuple ds) = true) : 1 ≤ ds.length ∧ ds.length ≤ 8 ∧ ∀ d ∈ ds, pieceG d = true := by
  have h : (decide (1 ≤ ds.length) && (decide (ds.length ≤ 8) && ds.all pieceG)) = true := h
  simp only [Bool.and_eq_true, decide_eq_true_eq, List.all_eq_true] at h
  exact ⟨h.1, h.2.1, h.2.2⟩
theorem row_tup {d : PyData} (h : rowG d = true) : ∃ ds, d = .tuple ds := by
  cases d with
  | tuple ds => exact ⟨ds, rfl⟩
  | _ => exact absurd h (by simp [rowG])
/-- a row of pieces as a tuple -/
def RowT (H : Hp) (v : V) (r : List Pc) : Prop := ∃ q ws, v = .ref q ∧ H q = some (.tup ws) ∧ PiecesAt H ws r ∧ RowOk r ∧ 1 ≤ r.length ∧ r.length ≤ 8
theorem RowT.same {H H' : Hp} {v : V} {r : List Pc} (h : RowT H v r) (s : Same H H') : RowT H' v r := by
  obtain ⟨q, ws, e, hq, hw, a⟩ := h
  exact ⟨q, ws, e, s _ _ hq, hw.same s, a⟩
theorem row_at {H : Hp} {v : V} {d : PyData} (h : Dr H v d) (g : rowG d = true) : RowT H v (rowOf d) := by
  obtain ⟨ds, rfl⟩ := row_tup g
  obtain ⟨l1, l8, hp⟩ := row_parts g
  obtain ⟨q, ws, rfl, hq, hw⟩ := h.tuple
  have len : (rowOf (.tuple ds)).length = ds.length := List.length_map ..
  refine ⟨q, ws, rfl, hq, ⟨by rw [len, hw.1], fun i p hpi => ?_⟩, fun p hp' => ?_, by omega, by omega⟩
  · obtain ⟨d, hd, rfl⟩ : ∃ d, ds[i]? = some d ∧ pcOf d = p := by
      have hpi : (ds.map pcOf)[i]? = some p := hpi
      rw [List.getElem?_map] at hpi
      cases e : ds[i]? with
      | none =>
        rw [e] at hpi
        cases hpi
      | some d =>
        rw [e] at hpi
        exact ⟨d, rfl, Option.some.inj hpi⟩
    obtain ⟨v, hv, hd'⟩ := hw.at_ hd
    obtain ⟨s, n, rfl, e1, e2, _⟩ := piece_of (hp d (List.mem_of_getElem? hd))
    obtain ⟨t, ys, rfl, ht, hy⟩ := hd'.tuple
    refine ⟨_, hv, t, rfl, ?_⟩
    match ys, hy with
    | [a, b], hy =>
      have h1 := hy.inv.1.toStr
      have h2 := hy.inv.2.inv.1.toInt
      rw [ht, h1, h2, e1, e2]
    | [], hy => exact absurd hy.1 (by simp)
    | [_], hy => exact absurd hy.1 (by simp)
    | _ :: _ :: _ :: _, hy => exact absurd hy.1 (by simp)
  · obtain ⟨d, hd, rfl⟩ := List.mem_map.mp hp'
    obtain ⟨_, _, _, _, _, ok⟩ := piece_of (hp d hd)
    exact ok
theorem num_of {d : PyData} (h : numG d = true) : (∃ i, d = .int i ∧ 0 ≤ i) ∨ ∃ a b, d = .tuple [.int a, .int b] ∧ Pos2 (a, b) := by
  cases d with
  | int i => exact .inl ⟨i, rfl, of_decide_eq_true h⟩
  | tuple ds =>
    match ds, h with
    | [a, b], h =>
      have h : numOf a b = true := h
      cases a with
      | int a =>
        cases b with
        | int b =>
          have h : (decide (a = 1 ∧ b = 0) || (decide (0 ≤ a) && decide (1 ≤ b))) = true := h
          simp only [Bool.or_eq_true, Bool.and_eq_true, decide_eq_true_eq] at h
          refine .inr ⟨a, b, rfl, ?_⟩
          unfold Pos2
          dsimp
          omega
        | _ => exact absurd h (by simp [numOf])
      | _ => exact absurd h (by simp [numOf])
    | [], h => exact absurd h (by simp [numG])
    | [_], h => exact absurd h (by simp [numG])
    | _ :: _ :: _ :: _, h => exact absurd h (by simp [numG])
  | _ => exact absurd h (by simp [numG])
theorem num_pos {d : PyData} (h : numG d = true) : Pos2 (prOf d) := by
  rcases num_of h with ⟨i, rfl, i0⟩ | ⟨a, b, rfl, p⟩
  · exact ⟨i0, by show (0 : Int) ≤ 1; decide, .inr (by show (0 : Int) < 1; decide)⟩
  · exact p
theorem res_num {d : PyData} (h : resG d = true) : numG d = true ∧ Sm 40 (prOf d).1 ∧ Sm 40 (prOf d).2 := by
  have p40 : (2 : Nat) ^ 40 = 1099511627776 := by decide
  cases d with
  | int i =>
    have h : (decide (0 ≤ i) && decide (i ≤ 1000000000000)) = true := h
    simp only [Bool.and_eq_true, decide_eq_true_eq] at h
    refine ⟨decide_eq_true h.1, ?_, by show Sm 40 1; unfold Sm; decide⟩
    show Sm 40 i
    unfold Sm
    omega
  | tuple ds =>
    match ds, h with
    | [a, b], h =>
      have h : resOf a b = true := h
      cases a with
      | int a =>
        cases b with
        | int b =>
          have h : (decide (a = 1 ∧ b = 0) || (decide (0 ≤ a) && decide (a ≤ 1000000000000) && (decide (1 ≤ b) && decide (b ≤ 1000000000000)))) = true := h
          simp only [Bool.or_eq_true, Bool.and_eq_true, decide_eq_true_eq] at h
          refine ⟨?_, ?_, ?_⟩
          · show (decide (a = 1 ∧ b = 0) || (decide (0 ≤ a) && decide (1 ≤ b))) = true
            simp only [Bool.or_eq_true, Bool.and_eq_true, decide_eq_true_eq]
            omega
          · show Sm 40 a
            unfold Sm
            omega
          · show Sm 40 b
            unfold Sm
            omega
        | _ => exact absurd h (by simp [resOf])
      | _ => exact absurd h (by simp [resOf])
    | [], h => exact absurd h (by simp [resG])
    | [_], h => exact absurd h (by simp [resG])
    | _ :: _ :: _ :: _, h => exact absurd h (by simp [resG])
  | _ => exact absurd h (by simp [resG])
/-- the integers of a number are not too great -/
def SmD (n : Nat) (d : PyData) : Prop := Sm n (prOf d).1 ∧ Sm n (prOf d).2
/-- a call of pair_of -/
theorem pairof_of {H : Hp} {v : V} {d : PyData} {Q : VK} {E : XK} (h : Dr H v d) (n : numG d = true) (k : ∀ H' p, Same H H' → PairAt H' p (prOf d) → Q (.ref p) H') : spPairOf [v] H Q E := by
  rcases num_of n with ⟨i, rfl, i0⟩ | ⟨a, b, rfl, p⟩
  · cases h.toInt
    exact .inl ⟨i, rfl, fun H' p s np hp => k H' p s hp⟩
  · obtain ⟨t, ys, rfl, ht, hy⟩ := h.tuple
    refine .inr ⟨t, ys, rfl, ht, k H t (Same.refl _) ?_⟩
    match ys, hy with
    | [x, y], hy =>
      have h1 := hy.inv.1.toInt
      have h2 := hy.inv.2.inv.1.toInt
      rw [h1, h2] at ht
      exact ht
    | [], hy => exact absurd hy.1 (by simp)
    | [_], hy => exact absurd hy.1 (by simp)
    | _ :: _ :: _ :: _, hy => exact absurd hy.1 (by simp)
def spPairN : Sp := fun vs H Q _ => ∃ (v : V) (d : PyData), vs = [v] ∧ Dr H v d ∧ numG d = true ∧ ∀ H' p, Same H H' → PairAt H' p (prOf d) → Q (.ref p) H'
theorem pairN_weak (vs : List V) (H : Hp) (Q : VK) (E : XK) (h : spPairN vs H Q E) : spPairOf vs H Q E := by
  obtain ⟨v, d, rfl, hd, hn, k⟩ := h
  exact pairof_of hd hn k
def spMatOf : Sp := fun vs H Q _ => ∃ (v : V) (r : List Pc), vs = [v] ∧ RowT H v r ∧ ∀ H' m, Same H H' → H' m = some (.tup (MatT (matR r))) → Q (.ref m) H'
def spLS : Sp := fun vs H Q _ => ∃ (m : Addr) (r : List Pc) (v : V) (d : PyData) (n : Int), vs = [.ref m, v, .int n] ∧ H m = some (.tup (MatT (matR r))) ∧ RowOk r ∧ r.length ≤ 8 ∧ Dr H v d ∧ resG d = true ∧ 0 ≤ n ∧ n ≤ 100 ∧
  ∀ H' p, Same H H' → PairAt H' p (appN (matR r) n.toNat (prOf d)) → Q (.ref p) H'
def spSign : Sp := fun vs H Q _ => ∃ n : Int, vs = [.int n] ∧ Q (.int (sg n)) H
def spPO : Sp := fun vs H Q _ => ∃ (a b : Addr) (e f : Int × Int), vs = [.ref a, .ref b] ∧ PairAt H a e ∧ PairAt H b f ∧ Sm 4000 e.1 ∧ Sm 4000 e.2 ∧ Sm 4000 f.1 ∧ Sm 4000 f.2 ∧ Q (.int (sg (e.1 * f.2 - f.1 * e.2))) H
def valE (r l n x : PyData) : Bool := decide (sg ((appN (matR (rowOf r)) (cntOf n) (prOf l)).1 * (prOf x).2 - (prOf x).1 * (appN (matR (rowOf r)) (cntOf n) (prOf l)).2) = 0)
def valP : List PyData → PyData → Bool
  | [r, l, n, x], e => emptyG e && (rowG r && (resG l && (withinD n 0 100 && (numG x && valE r l n x))))
  | _, _ => false
def spCkV : Sp := fun vs H Q _ => ∃ (t : Addr) (ys : List V) (ds : List PyData) (u : V) (e : PyData), vs = [.ref t, u] ∧ H t = some (.tup ys) ∧ Drs H ys ds ∧ (∀ d ∈ ds, Nd d ∧ SmD 3990 d) ∧ Dr H u e ∧ Nd e ∧ ∀ H', Same H H' → Q (.bl (valP ds e)) H'
/-- a check that says no by the number of places -/
def spCkN (n : Nat) : Sp := fun vs H Q _ => ∃ (t : Addr) (ys : List V) (u : V), vs = [.ref t, u] ∧ H t = some (.tup ys) ∧ ys.length ≠ n ∧ Q (.bl false) H
def spCkN3 (n : Nat) : Sp := fun vs H Q _ => ∃ (t : Addr) (ys : List V) (u g : V), vs = [.ref t, u, g] ∧ H t = some (.tup ys) ∧ ys.length ≠ n ∧ Q (.bl false) H
section
variable {P : Program} {w : World} {K : PySem.W.Frag} {mg : Str → Option Value} {base : Heap} {tG t1 t3 tC tK : Tok} {aO aW aCh : Addr}
abbrev s_sign : Stmt := top 18
theorem sc_sign : FnScope ["number"] ["number"] (defScope s_sign) := ⟨rfl, rfl, rfl, by decide +kernel, rfl, by decide +kernel, by decide +kernel⟩

theorem ok_sign {f : Addr} {fd : FuncData} (F : Fun K "sign" "sign" s_sign f fd) : FnOk P w K mg base CX0 1 f fd ["number"] spSign := by
  refine F.ok sc_sign (fun vs H Q E h => ?_) (fun cdv A outer s H vs Q E hr h => ?_)
  · obtain ⟨n, rfl, _⟩ := h
    rfl
  · obtain ⟨n, rfl, k⟩ := h
    refine ⟨_, (pss_cons (ps_if (pt_cmpR op_gt (pv 0) pe_int (nomark _)) (pss_one (ps_ret pe_int)) pss_nil)
      (pss_cons (ps_if (pt_cmpR op_lt (pv 0) pe_int (nomark _)) (pss_one (ps_ret (pe_un un_neg pe_int))) pss_nil)
      (pss_one (ps_ret pe_int)))), ?_⟩
    unfold sg at k
    refine ⟨_, rfl, _, _, rfl, rfl, _, rfl, ite2 (fun e => ?_) (fun e => ?_)⟩
    · rw [if_pos (show 0 < n from of_decide_eq_true e)] at k
      exact k
    · rw [if_neg (show ¬ 0 < n from fun z => e (decide_eq_true z))] at k
      refine ⟨_, rfl, _, _, rfl, rfl, _, rfl, ite2 (fun e2 => ?_) (fun e2 => ?_)⟩
      · rw [if_pos (show n < 0 from of_decide_eq_true e2)] at k
        exact ⟨1, rfl, k⟩
      · rw [if_neg (show ¬ n < 0 from fun z => e2 (decide_eq_true z))] at k
        exact k
abbrev s_pair_order : Stmt := top 16
theorem sc_pair_order : FnScope ["first", "second"] ["first", "second"] (defScope s_pair_order) := ⟨rfl, rfl, rfl, by decide +kernel, rfl, by decide +kernel, by decide +kernel⟩

theorem ok_po {f : Addr} {fd : FuncData} (F : Fun K "pair_order" "pair_order" s_pair_order f fd) (D_sign : Df P w K mg base 1 "sign" ["number"] spSign) : FnOk P w K mg base CX0 2 f fd ["first", "second"] spPO := by
  refine F.ok sc_pair_order (fun vs H Q E h => ?_) (fun cdv A outer s H vs Q E hr h => ?_)
  · obtain ⟨a, b, e, f, rfl, _⟩ := h
    rfl
  · obtain ⟨a, b, e, f, rfl, ha, hb, e1, e2, f1, f2, k⟩ := h
    refine ⟨_, (pss_one (ps_ret (pe_df D_sign (hr.mono (by decide)) (by rfl) (pa_cons (pe_op op_sub (pe_op op_mulX (pe_ix ix_tup (pv 0) pe_int (fun _ _ => rfl)) (pe_ix ix_tup (pv 1) pe_int (fun _ _ => rfl))) (pe_op op_mulX (pe_ix ix_tup (pv 1) pe_int (fun _ _ => rfl)) (pe_ix ix_tup (pv 0) pe_int (fun _ _ => rfl)))) pa_nil)))), ?_⟩
    refine ⟨_, rfl, a, _, _, _, rfl, rfl, SqT.of ha, atI_nat (j := 0) rfl, _, rfl, b, _, _, _, rfl, rfl, SqT.of hb, atI_nat (j := 1) rfl, _, _, rfl, rfl, mx e1 f2, ?_⟩
    exact ⟨_, rfl, b, _, _, _, rfl, rfl, SqT.of hb, atI_nat (j := 0) rfl, _, rfl, a, _, _, _, rfl, rfl, SqT.of ha, atI_nat (j := 1) rfl, _, _, rfl, rfl, mx f1 e2, _, _, rfl, rfl, _, rfl, k⟩
abbrev s_is_empty : Stmt := top 51
theorem sc_is_empty : FnScope ["value"] ["value"] (defScope s_is_empty) := ⟨rfl, rfl, rfl, by decide +kernel, rfl, by decide +kernel, by decide +kernel⟩

theorem ok_emptyG {f : Addr} {fd : FuncData} (F : Fun K "is_empty" "is_empty" s_is_empty f fd) (T : Txt K mg) : FnOk P w K mg base CX0 1 f fd ["value"] (spEmptyG K) := by
  refine F.ok sc_is_empty (fun vs H Q E h => ?_) (fun cdv A outer s H vs Q E hr h => ?_)
  · obtain ⟨v, d, rfl, _⟩ := h
    rfl
  · obtain ⟨v, d, rfl, hd, k⟩ := h
    refine ⟨_, (pss_one (ps_ret (pe_and (pe_callB call_isi (by rfl) T.isinstance (by decide +kernel) (pa_cons (pv 0) (pa_cons (pe_bltn (v := .ty "tuple") (by rfl) T.tuple_ (by decide +kernel) rfl) pa_nil))) (pe_one (pe_cmpR op_eq (pe_callB call_len_seq (by rfl) T.len (by decide +kernel) (pa_cons (pv 0) pa_nil)) pe_int (nomark _)))))), ?_⟩
    refine ⟨_, rfl, _, _, _, _, isTupD d, rfl, .ty _, ty_dq hd, kit_tup d, _, rfl, ?_⟩
    cases h1 : isTupD d with
    | false =>
      have e : emptyG d = false := by cases d <;> first | rfl | exact absurd h1 (by simp [isTupD])
      rw [e] at k
      exact iteF k
    | true =>
      obtain ⟨ds, rfl⟩ : ∃ ds, d = .tuple ds := by cases d <;> first | exact ⟨_, rfl⟩ | exact absurd h1 (by simp [isTupD])
      obtain ⟨t, ys, rfl, hs, hall, _⟩ := dq_tup hd
      have el := dpAll_len hall
      refine iteT ⟨_, rfl, t, _, rfl, .inr hs, rfl, ?_⟩
      have e : decide (V.int (ys.length : Int) = V.int 0) = emptyG (.tuple ds) := by
        cases ds with
        | nil =>
          rw [el]
          rfl
        | cons a b =>
          refine decide_eq_false fun z => ?_
          have := V.int.inj z
          rw [el, List.length_cons] at this
          omega
      rw [← e] at k
      exact k
abbrev s_matrix_of : Stmt := top 53
theorem sc_matrix_of : FnScope ["row"] ["row"] (defScope s_matrix_of) := ⟨rfl, rfl, rfl, by decide +kernel, rfl, by decide +kernel, by decide +kernel⟩

theorem ok_matof {f : Addr} {fd : FuncData} (F : Fun K "matrix_of" "matrix_of" s_matrix_of f fd) (D_matrix_and_scale : Df P w K mg base 1 "matrix_and_scale" ["row"] spMat) : FnOk P w K mg base CX0 2 f fd ["row"] spMatOf := by
  refine F.ok sc_matrix_of (fun vs H Q E h => ?_) (fun cdv A outer s H vs Q E hr h => ?_)
  · obtain ⟨v, r, rfl, _⟩ := h
    rfl
  · obtain ⟨v, r, rfl, ⟨q, ws, rfl, hq, hw, hok, l1, l8⟩, k⟩ := h
    refine ⟨_, (pss_one (ps_ret (pe_ix ix_tup (pe_df D_matrix_and_scale (hr.mono (by decide)) (by rfl) (pa_cons (pv 0) pa_nil)) pe_int (fun _ _ => rfl)))), ?_⟩
    exact ⟨_, rfl, q, ws, r, rfl, hq, hw, hok, l8, fun H' p m s hp hm np nm => ⟨p, _, _, _, rfl, rfl, SqT.of hp, atI_nat (j := 0) rfl, k _ m s hm⟩⟩
abbrev s_ladder_shows : Stmt := top 54
theorem sc_ladder_shows : FnScope ["matrix", "load", "count", "pair", "number"] ["matrix", "load", "count"] (defScope s_ladder_shows) := ⟨rfl, rfl, rfl, by decide +kernel, rfl, by decide +kernel, by decide +kernel⟩

theorem ok_ls {f : Addr} {fd : FuncData} (F : Fun K "ladder_shows" "ladder_shows" s_ladder_shows f fd) (T : Txt K mg) (D_pair_of : Df P w K mg base 2 "pair_of" ["fraction_or_open"] spPairN) (D_shown_before : Df P w K mg base 1 "shown_before" ["matrix", "pair"] spShown) : FnOk P w K mg base CX0 3 f fd ["matrix", "load", "count"] spLS := by
  refine F.ok sc_ladder_shows (fun vs H Q E h => ?_) (fun cdv A outer s H vs Q E hr h => ?_)
  · obtain ⟨m, r, v, d, n, rfl, _⟩ := h
    rfl
  · obtain ⟨m, r, v, d, n, rfl, hm, hok, l8, hd, hres, n0, n100, k⟩ := h
    refine ⟨_, (pss_cons (ps_set (i := 3) sc_ladder_shows.nd rfl (.inl rfl) (pe_df D_pair_of (hr.mono (by decide)) (by rfl) (pa_cons (pv 1) pa_nil)))
      (pss_cons (ps_for PassesOwn.never rfl (pi_range1 rfl T.range (pa_cons (pv 2) pa_nil)) (pg_name (i := 4) sc_ladder_shows.nd rfl (.inl rfl)) (pss_one (ps_set (i := 3) sc_ladder_shows.nd rfl (.inl rfl) (pe_df D_shown_before (hr.mono (by decide)) (by rfl) (pa_cons (pv 0) (pa_cons (pv 3) pa_nil))))))
      (pss_one (ps_ret (pv 3))))), ?_⟩
    obtain ⟨hn, s1, s2⟩ := res_num hres
    refine ⟨_, rfl, v, d, rfl, hd, hn, fun H1 p sm hp => ?_⟩
    refine ⟨_, rfl, n, rfl, by omega, by omega, ?_⟩
    refine for_range (lo := 0) (n := n.toNat) (fun i σ H' => Same H H' ∧ ∃ p v5, σ = [some (.ref m), some v, some (.int n), some (.ref p), v5] ∧ PairAt H' p (appN (matR r) i (prOf d))) ⟨sm, p, none, rfl, hp⟩ ?_ ?_
    · rintro i σ H' hi ⟨sm', p', v5, rfl, hp'⟩
      obtain ⟨z1, z2⟩ := appN_sm hok l8 s1 s2 i
      refine ⟨_, rfl, _, rfl, m, p', matR r, _, rfl, sm' _ _ hm, hp', (matR_sm30 hok l8).mono (by decide), z1.mono (by omega), z2.mono (by omega), fun H2 q sq nq hq => ?_⟩
      exact ⟨sm'.trans sq, q, _, rfl, hq⟩
    · rintro σ H' ⟨sm', p', v5, rfl, hp'⟩
      exact ⟨_, rfl, k _ p' sm' hp'⟩
end
end RL

set_option maxHeartbeats 2000000
namespace RL
open PySem L2 PySem.Spec PyProof.Rows
theorem dec_int (a b : Int) : decide (V.int a = V.int b) = decide (a = b) := by
  rw [Bool.eq_iff_iff, decide_eq_true_eq, decide_eq_true_eq]
  exact ⟨fun h => V.int.inj h, fun h => h ▸ rfl⟩
def spAcc (K : PySem.W.Frag) (aCh : Addr) (S : Addr → Option Sp) : Sp := fun vs H Q _ => ∃ (v u : V) (d : PyData), vs = [v, u] ∧ Dr H v d ∧
  (∀ s r, d = .tuple (.str s :: r) → (PySem.W.nsIn K aCh s = some none ∧ Q (.bl false) H) ∨ ∃ f sp, PySem.W.nsIn K aCh s = some (some (.ref f)) ∧ S f = some sp ∧ ∀ H' t ys, Same H H' → H' t = some (.tup ys) → Drs H' ys r → sp [.ref t, u] H' Q (fun _ _ _ => False)) ∧
  ((¬ ∃ s r, d = .tuple (.str s :: r)) → Q (.bl false) H)
theorem cut_tail1 (x : V) (xs : List V) : cutV (x :: xs) (some 1) none = xs := by
  have e : HT.sIx (x :: xs).length 0 (some 1) = 1 := by
    have := HT.sIx_nat (x :: xs).length 0 1
    rw [List.length_cons] at this ⊢
    exact this.trans (by omega)
  unfold cutV
  rw [HT.sIx_none, e, List.drop_succ_cons, List.drop_zero, List.take_of_length_le (by rw [List.length_cons]; omega)]
section
variable {P : Program} {w : World} {K : PySem.W.Frag} {mg : Str → Option Value} {base : Heap} {tG t1 t3 tC tK : Tok} {aO aW aCh : Addr}
abbrev s_accepts : Stmt := top 68
theorem sc_accepts : FnScope ["claim", "certificate", "check"] ["claim", "certificate"] (defScope s_accepts) := ⟨rfl, rfl, rfl, by decide +kernel, rfl, by decide +kernel, by decide +kernel⟩

theorem ok_acc {S : Addr → Option Sp} {f : Addr} {fd : FuncData} (F : Fun K "accepts" "accepts" s_accepts f fd) (T : TxtA K mg w tG t1 t3 tC tK aO aW aCh) (HC : ∀ f sp, S f = some sp → Held P w K mg base 8 f sp) : FnOk P w K mg base CX0 9 f fd ["claim", "certificate"] (spAcc K aCh S) := by
  refine F.ok sc_accepts (fun vs H Q E h => ?_) (fun cdv A outer s H vs Q E hr h => ?_)
  · obtain ⟨v, u, d, rfl, _⟩ := h
    rfl
  · obtain ⟨v, u, d, rfl, hd, k, kn⟩ := h
    refine ⟨_, (pss_cons (ps_if (PW.pt (pw_or (pt_not (pt_val (pe_callB call_isi (by rfl) T.isinstance (by decide +kernel) (pa_cons (pv 0) (pa_cons (pe_bltn (v := .ty "tuple") (by rfl) T.tuple_ (by decide +kernel) rfl) pa_nil))))) (pw_or (pt_cmpR op_lt (pe_callB call_len_seq (by rfl) T.len (by decide +kernel) (pa_cons (pv 0) pa_nil)) pe_int (nomark _)) (pw_or1 (pt_not (pt_val (pe_callB call_isi (by rfl) T.isinstance (by decide +kernel) (pa_cons (pe_ix ix_tup (pv 0) pe_int (fun _ _ => rfl)) (pa_cons (pe_bltn (v := .ty "str") (by rfl) T.str_ (by decide +kernel) rfl) pa_nil))))))))) (pss_one (ps_ret pe_bl)) pss_nil)
      (pss_cons (ps_set (i := 2) sc_accepts.nd rfl (.inl rfl) (pe_dgetK (pe_glob (v := .ref aCh) rfl T.mgCh rfl) (pe_ix ix_tup (pv 0) pe_int (fun _ _ => rfl))))
      (pss_cons (ps_if (pt_cmpR op_isN (pv 2) pe_non (nomark _)) (pss_one (ps_ret pe_bl)) pss_nil)
      (pss_one (ps_ret (pe_callA (i := 2) HC (hr.mono (by decide)) rfl (.inl rfl) (pa_cons (pe_slice sl_tup (pv 0) (po_some pe_int) po_none) (pa_cons (pv 1) pa_nil)))))))), ?_⟩
    refine ⟨_, rfl, _, _, _, _, isTupD d, rfl, .ty _, ty_dr hd, kit_tup d, _, rfl, ?_⟩
    cases h1 : isTupD d with
    | false =>
      exact iteT (kn (fun ⟨s, r, z⟩ => by rw [z] at h1; cases h1))
    | true =>
      obtain ⟨ds, rfl⟩ : ∃ ds, d = .tuple ds := by cases d <;> first | exact ⟨_, rfl⟩ | exact absurd h1 (by simp [isTupD])
      obtain ⟨t, ys, rfl, ht, hy⟩ := hd.tuple
      refine iteF ⟨_, rfl, t, _, rfl, .inr (SqT.of ht), _, _, rfl, rfl, _, rfl, ite2 (fun e => ?_) (fun e => ?_)⟩
      · have := of_decide_eq_true e
        refine kn (fun ⟨s, r, z⟩ => ?_)
        have := hy.1
        rw [PyData.tuple.inj z] at this
        simp at this
        omega
      have l1 : ¬ ((ys.length : Int) < 1) := fun z => e (decide_eq_true z)
      obtain ⟨y0, yr, rfl⟩ : ∃ y0 yr, ys = y0 :: yr := by
        cases ys with
        | nil => exact absurd (show ((([] : List V).length : Nat) : Int) < 1 by decide) l1
        | cons a b => exact ⟨a, b, rfl⟩
      obtain ⟨d0, dr, rfl⟩ : ∃ d0 dr, ds = d0 :: dr := by
        cases ds with
        | nil => exact absurd hy.1 (by simp)
        | cons a b => exact ⟨a, b, rfl⟩
      obtain ⟨hy0, hyr⟩ := hy.inv
      refine ⟨_, rfl, t, _, _, _, rfl, rfl, SqT.of ht, atI_nat (j := 0) rfl, _, _, _, _, isStrD d0, rfl, .ty _, ty_dr hy0, kit_str d0, _, rfl, ?_⟩
      cases h3 : isStrD d0 with
      | false =>
        exact iteT (kn (fun ⟨s, r, z⟩ => by
          have := (List.cons.inj (PyData.tuple.inj z)).1
          rw [this] at h3
          cases h3))
      | true =>
        obtain ⟨s, rfl⟩ : ∃ s, d0 = .str s := by cases d0 <;> first | exact ⟨_, rfl⟩ | exact absurd h3 (by simp [isStrD])
        cases hy0.toStr
        obtain ⟨es, n, D⟩ := T.chk
        refine iteF ?_
        rcases k s dr rfl with ⟨hn, q⟩ | ⟨fc, sp, hn, hS, q⟩
        · refine ⟨aCh, es, n, rfl, D, _, rfl, t, _, _, _, rfl, rfl, SqT.of ht, atI_nat (j := 0) rfl, s, none, .non, rfl, hn, rfl, ?_⟩
          refine ⟨_, rfl, rfl, _, rfl, iteT q⟩
        · refine ⟨aCh, es, n, rfl, D, _, rfl, t, _, _, _, rfl, rfl, SqT.of ht, atI_nat (j := 0) rfl, s, some (.ref fc), .ref fc, rfl, hn, rfl, ?_⟩
          refine ⟨_, rfl, rfl, _, rfl, iteF ?_⟩
          refine ⟨fc, sp, rfl, hS, _, rfl, 1, rfl, t, _, rfl, SqT.of ht, ?_, fun p np => ?_⟩
          · rw [HT.sIx_none]
            show ¬ (HT.sIx _ 0 (some ((1 : Nat) : Int)) = 0 ∧ _)
            rw [HT.sIx_nat]
            intro z
            have := z.1
            rw [List.length_cons] at this
            omega
          have sp' := same_upd (o := .tup (cutV (V.str s :: yr) (some 1) none)) np
          refine ⟨_, rfl, q _ p yr sp' ?_ (hyr.mono sp')⟩
          rw [upd_same]
          have := cut_tail1 (V.str s) yr
          rw [this]
abbrev s_check_value : Stmt := top 55
theorem sc_check_value : FnScope ["places", "certificate", "row", "load", "count", "shown"] ["places", "certificate"] (defScope s_check_value) := ⟨rfl, rfl, rfl, by decide +kernel, rfl, by decide +kernel, by decide +kernel⟩

theorem ok_ckv {f : Addr} {fd : FuncData} (F : Fun K "check_value" "check_value" s_check_value f fd) (T : TxtA K mg w tG t1 t3 tC tK aO aW aCh) (D_is_empty : Df P w K mg base 1 "is_empty" ["value"] (spEmptyG K)) (D_is_row : Df P w K mg base 4 "is_row" ["value"] (spRowG K)) (D_is_resistance : Df P w K mg base 3 "is_resistance" ["value"] (spResG K)) (D_is_count : Df P w K mg base 3 "is_count" ["value"] (spCntG K)) (D_is_number : Df P w K mg base 3 "is_number" ["value"] (spNumG K)) (D_matrix_of : Df P w K mg base 2 "matrix_of" ["row"] spMatOf) (D_ladder_shows : Df P w K mg base 3 "ladder_shows" ["matrix", "load", "count"] spLS) (D_pair_of : Df P w K mg base 2 "pair_of" ["fraction_or_open"] spPairN) (D_pair_order : Df P w K mg base 2 "pair_order" ["first", "second"] spPO) : FnOk P w K mg base CX0 5 f fd ["places", "certificate"] spCkV := by
  refine F.ok sc_check_value (fun vs H Q E h => ?_) (fun cdv A outer s H vs Q E hr h => ?_)
  · obtain ⟨t, ys, ds, u, e, rfl, _⟩ := h
    rfl
  · obtain ⟨t, ys, ds, u, e, rfl, ht, hy, hnd, hu, hnu, k⟩ := h
    refine ⟨_, (pss_cons (ps_if (PW.pt (pw_or (pt_cmpR op_ne (pe_callB call_len_seq (by rfl) T.len (by decide +kernel) (pa_cons (pv 0) pa_nil)) pe_int (nomark _)) (pw_or1 (pt_not (pt_val (pe_df D_is_empty (hr.mono (by decide)) (by rfl) (pa_cons (pv 1) pa_nil))))))) (pss_one (ps_ret pe_bl)) pss_nil)
      (pss_cons (ps_asg (pv 0) (pg_tup rfl (pgs_cons (pg_name (i := 2) sc_check_value.nd rfl (.inl rfl)) (pgs_cons (pg_name (i := 3) sc_check_value.nd rfl (.inl rfl)) (pgs_cons (pg_name (i := 4) sc_check_value.nd rfl (.inl rfl)) (pgs_cons (pg_name (i := 5) sc_check_value.nd rfl (.inl rfl)) pgs_nil))))))
      (pss_cons (ps_if (PW.pt (pw_or (pt_not (pt_val (pe_df D_is_row (hr.mono (by decide)) (by rfl) (pa_cons (pv 2) pa_nil)))) (pw_or (pt_not (pt_val (pe_df D_is_resistance (hr.mono (by decide)) (by rfl) (pa_cons (pv 3) pa_nil)))) (pw_or (pt_not (pt_val (pe_df D_is_count (hr.mono (by decide)) (by rfl) (pa_cons (pv 4) pa_nil)))) (pw_or1 (pt_not (pt_val (pe_df D_is_number (hr.mono (by decide)) (by rfl) (pa_cons (pv 5) pa_nil))))))))) (pss_one (ps_ret pe_bl)) pss_nil)
      (pss_one (ps_ret (pe_cmpR op_eq (pe_df D_pair_order (hr.mono (by decide)) (by rfl) (pa_cons (pe_df D_ladder_shows (hr.mono (by decide)) (by rfl) (pa_cons (pe_df D_matrix_of (hr.mono (by decide)) (by rfl) (pa_cons (pv 2) pa_nil)) (pa_cons (pv 3) (pa_cons (pv 4) pa_nil)))) (pa_cons (pe_df D_pair_of (hr.mono (by decide)) (by rfl) (pa_cons (pv 5) pa_nil)) pa_nil))) pe_int (nomark _))))))), ?_⟩
    refine ⟨_, rfl, t, _, rfl, .inr (SqT.of ht), rfl, _, rfl, ite2 (fun e1 => ?_) (fun e1 => ?_)⟩
    · have e : valP ds e = false := by
        have nl : ds.length ≠ 4 := fun z => by
          rw [hy.1, z] at e1
          exact absurd e1 (by decide)
        match ds, nl with
        | [], _ => rfl
        | [_], _ => rfl
        | [_, _], _ => rfl
        | [_, _, _], _ => rfl
        | [_, _, _, _], n => exact absurd rfl n
        | _ :: _ :: _ :: _ :: _ :: _, _ => rfl
      rw [e] at k
      exact k _ (Same.refl _)
    have l4 : ds.length = 4 := by
      have e2 : decide (V.int (ys.length : Int) = V.int 4) = true := by
        cases hh : decide (V.int (ys.length : Int) = V.int 4) with
        | true => rfl
        | false =>
          rw [hh] at e1
          exact absurd rfl e1
      have := V.int.inj (of_decide_eq_true e2)
      have := hy.1
      omega
    obtain ⟨r, l, n, x, rfl⟩ : ∃ r l n x, ds = [r, l, n, x] := by
      match ds, l4 with
      | [r, l, n, x], _ => exact ⟨r, l, n, x, rfl⟩
    obtain ⟨vr, vl, vn, vx, rfl⟩ : ∃ a b c d, ys = [a, b, c, d] := by
      match ys, hy.1 with
      | [a, b, c, d], _ => exact ⟨a, b, c, d, rfl⟩
    obtain ⟨hr', hy1⟩ := hy.inv
    obtain ⟨hl', hy2⟩ := hy1.inv
    obtain ⟨hn', hy3⟩ := hy2.inv
    obtain ⟨hx', _⟩ := hy3.inv
    have nr := hnd r (by simp)
    have nl := hnd l (by simp)
    have nn := hnd n (by simp)
    have nx := hnd x (by simp)
    have q : valP [r, l, n, x] e = (emptyG e && (rowG r && (resG l && (withinD n 0 100 && (numG x && valE r l n x))))) := rfl
    rw [q] at k
    refine ⟨_, rfl, u, e, rfl, hu.dq hnu, _, rfl, ?_⟩
    cases h0 : emptyG e with
    | false =>
      rw [h0] at k
      exact iteT (k _ (Same.refl _))
    | true =>
    rw [h0, Bool.true_and] at k
    refine iteF ⟨_, rfl, t, _, rfl, SqT.of ht, rfl, _, _, rfl, _, _, rfl, _, _, rfl, _, _, rfl, rfl, ?_⟩
    refine ⟨_, rfl, vr, r, rfl, hr'.dq nr.1, fun H1 s1 => ⟨_, rfl, ?_⟩⟩
    cases h1 : rowG r with
    | false =>
      rw [h1] at k
      exact iteT (k _ s1)
    | true =>
    rw [h1, Bool.true_and] at k
    refine iteF ⟨_, rfl, vl, l, rfl, (hl'.mono s1).dq nl.1, _, rfl, ?_⟩
    cases h2 : resG l with
    | false =>
      rw [h2] at k
      exact iteT (k _ s1)
    | true =>
    rw [h2, Bool.true_and] at k
    refine iteF ⟨_, rfl, vn, n, rfl, (hn'.mono s1).dq nn.1, _, rfl, ?_⟩
    cases h3 : withinD n 0 100 with
    | false =>
      rw [h3] at k
      exact iteT (k _ s1)
    | true =>
    rw [h3, Bool.true_and] at k
    refine iteF ⟨_, rfl, vx, x, rfl, (hx'.mono s1).dq nx.1, _, rfl, ?_⟩
    cases h4 : numG x with
    | false =>
      rw [h4] at k
      exact iteT (k _ s1)
    | true =>
    rw [h4, Bool.true_and] at k
    obtain ⟨i, rfl, i0, i1⟩ := within_of h3
    cases hn'.toInt
    have hrow := (row_at hr' h1).same s1
    obtain ⟨_, _, _, _, _, hok, _, l8⟩ := id hrow
    obtain ⟨_, z1, z2⟩ := res_num h2
    obtain ⟨w1, w2⟩ := appN_sm hok l8 z1 z2 i.toNat
    refine iteF ⟨_, rfl, vr, rowOf r, rfl, hrow, fun H2 m s2 hm => ?_⟩
    refine ⟨_, rfl, _, rfl, m, rowOf r, vl, l, i, rfl, hm, hok, l8, (hl'.mono s1).mono s2, h2, i0, i1, fun H3 p s3 hp => ?_⟩
    refine ⟨_, rfl, vx, x, rfl, ((hx'.mono s1).mono s2).mono s3, h4, fun H4 p2 s4 hp2 => ?_⟩
    refine ⟨p, p2, _, _, rfl, s4 _ _ hp, hp2, w1.mono (by omega), w2.mono (by omega), nx.2.1.mono (by decide), nx.2.2.mono (by decide), ?_⟩
    refine ⟨rfl, ?_⟩
    rw [dec_int]
    exact k _ (((s1.trans s2).trans s3).trans s4)
theorem ok_ckvN {f : Addr} {fd : FuncData} (F : Fun K "check_value" "check_value" s_check_value f fd) (T : Txt K mg) (D_is_empty : Df P w K mg base 1 "is_empty" ["value"] (spEmptyG K)) : FnOk P w K mg base CX0 5 f fd ["places", "certificate"] (spCkN 4) := by
  refine F.ok sc_check_value (fun vs H Q E h => ?_) (fun cdv A outer s H vs Q E hr h => ?_)
  · obtain ⟨t, ys, u, rfl, _⟩ := h
    rfl
  · obtain ⟨t, ys, u, rfl, ht, hl, k⟩ := h
    refine ⟨_, (pss_cons (ps_if (PW.pt (pw_or (pt_cmpR op_ne (pe_callB call_len_seq (by rfl) T.len (by decide +kernel) (pa_cons (pv 0) pa_nil)) pe_int (nomark _)) (pw_or1 (pt_not (pt_val (pe_df D_is_empty (hr.mono (by decide)) (by rfl) (pa_cons (pv 1) pa_nil))))))) (pss_one (ps_ret pe_bl)) pss_nil)
      pss_never), ?_⟩
    refine ⟨_, rfl, t, _, rfl, .inr (SqT.of ht), rfl, _, rfl, ite2 (fun e1 => k) (fun e1 => ?_)⟩
    refine absurd ?_ e1
    have : decide (V.int (ys.length : Int) = V.int 4) = false := decide_eq_false fun z => hl (by have := V.int.inj z; omega)
    rw [this]
    rfl
abbrev s_check_never : Stmt := top 60
theorem sc_check_never : FnScope ["places", "certificate"] ["places", "certificate"] (defScope s_check_never) := ⟨rfl, rfl, rfl, by decide +kernel, rfl, by decide +kernel, by decide +kernel⟩

theorem ok_cknN {f : Addr} {fd : FuncData} (F : Fun K "check_never" "check_never" s_check_never f fd) (T : Txt K mg) (D_is_empty : Df P w K mg base 1 "is_empty" ["value"] (spEmptyG K)) (D_is_row : Df P w K mg base 4 "is_row" ["value"] (spRowG K)) : FnOk P w K mg base CX0 5 f fd ["places", "certificate"] (spCkN 2) := by
  refine F.ok sc_check_never (fun vs H Q E h => ?_) (fun cdv A outer s H vs Q E hr h => ?_)
  · obtain ⟨t, ys, u, rfl, _⟩ := h
    rfl
  · obtain ⟨t, ys, u, rfl, ht, hl, k⟩ := h
    refine ⟨_, (pss_cons (ps_if (PW.pt (pw_or (pt_cmpR op_ne (pe_callB call_len_seq (by rfl) T.len (by decide +kernel) (pa_cons (pv 0) pa_nil)) pe_int (nomark _)) (pw_or (pt_not (pt_val (pe_df D_is_empty (hr.mono (by decide)) (by rfl) (pa_cons (pv 1) pa_nil)))) (pw_or (pt_not (pt_val (pe_df D_is_row (hr.mono (by decide)) (by rfl) (pa_cons (pe_ix ix_tup (pv 0) pe_int (fun _ _ => rfl)) pa_nil)))) (pw_or1 (pt_not (pt_val (pe_df D_is_row (hr.mono (by decide)) (by rfl) (pa_cons (pe_ix ix_tup (pv 0) pe_int (fun _ _ => rfl)) pa_nil))))))))) (pss_one (ps_ret pe_bl)) pss_nil)
      pss_never), ?_⟩
    refine ⟨_, rfl, t, _, rfl, .inr (SqT.of ht), rfl, _, rfl, ite2 (fun e1 => k) (fun e1 => ?_)⟩
    refine absurd ?_ e1
    have : decide (V.int (ys.length : Int) = V.int 2) = false := decide_eq_false fun z => hl (by have := V.int.inj z; omega)
    rw [this]
    rfl
abbrev s_check_bound : Stmt := top 56
theorem sc_check_bound : FnScope ["places", "certificate", "sense", "row", "load", "bound", "middle", "steps", "first", "second"] ["places", "certificate", "sense"] (defScope s_check_bound) := ⟨rfl, rfl, rfl, by decide +kernel, rfl, by decide +kernel, by decide +kernel⟩

theorem ok_ckbN {f : Addr} {fd : FuncData} (F : Fun K "check_bound" "check_bound" s_check_bound f fd) (T : Txt K mg) (D_is_number : Df P w K mg base 3 "is_number" ["value"] (spNumG K)) : FnOk P w K mg base CX0 5 f fd ["places", "certificate", "sense"] (spCkN3 3) := by
  refine F.ok sc_check_bound (fun vs H Q E h => ?_) (fun cdv A outer s H vs Q E hr h => ?_)
  · obtain ⟨t, ys, u, g, rfl, _⟩ := h
    rfl
  · obtain ⟨t, ys, u, g, rfl, ht, hl, k⟩ := h
    refine ⟨_, (pss_cons (ps_if (PW.pt (pw_or (pt_cmpR op_ne (pe_callB call_len_seq (by rfl) T.len (by decide +kernel) (pa_cons (pv 0) pa_nil)) pe_int (nomark _)) (pw_or1 (pt_not (pt_val (pe_df D_is_number (hr.mono (by decide)) (by rfl) (pa_cons (pv 1) pa_nil))))))) (pss_one (ps_ret pe_bl)) pss_nil)
      pss_never), ?_⟩
    refine ⟨_, rfl, t, _, rfl, .inr (SqT.of ht), rfl, _, rfl, ite2 (fun e1 => k) (fun e1 => ?_)⟩
    refine absurd ?_ e1
    have : decide (V.int (ys.length : Int) = V.int 3) = false := decide_eq_false fun z => hl (by have := V.int.inj z; omega)
    rw [this]
    rfl
abbrev s_check_most : Stmt := top 57
theorem sc_check_most : FnScope ["places", "certificate"] ["places", "certificate"] (defScope s_check_most) := ⟨rfl, rfl, rfl, by decide +kernel, rfl, by decide +kernel, by decide +kernel⟩

theorem ok_ckmN {f : Addr} {fd : FuncData} (F : Fun K "check_most" "check_most" s_check_most f fd) (D_check_bound : Df P w K mg base 5 "check_bound" ["places", "certificate", "sense"] (spCkN3 3)) : FnOk P w K mg base CX0 6 f fd ["places", "certificate"] (spCkN 3) := by
  refine F.ok sc_check_most (fun vs H Q E h => ?_) (fun cdv A outer s H vs Q E hr h => ?_)
  · obtain ⟨t, ys, u, rfl, _⟩ := h
    rfl
  · obtain ⟨t, ys, u, rfl, ht, hl, k⟩ := h
    refine ⟨_, (pss_one (ps_ret (pe_df D_check_bound (hr.mono (by decide)) (by rfl) (pa_cons (pv 0) (pa_cons (pv 1) (pa_cons pe_int pa_nil)))))), ?_⟩
    exact ⟨_, rfl, _, rfl, t, ys, u, _, rfl, ht, hl, k⟩
end
end RL

set_option maxHeartbeats 2000000
namespace RL
open PySem L2 PySem.Spec PyProof.Rows
/-! ### written data -/
def fresh (H H' : Hp) : Hp := fun b => match H b with
  | none => H' b
  | some _ => none
theorem fresh_get {H H' : Hp} {b : Addr} {o : HO} (h : fresh H H' b = some o) : H b = none ∧ H' b = some o := by
  unfold fresh at h
  cases e : H b with
  | none =>
    rw [e] at h
    exact ⟨rfl, h⟩
  | some u =>
    rw [e] at h
    cases h
theorem fresh_of {H H' : Hp} {b : Addr} {o : HO} (n : H b = none) (h : H' b = some o) : fresh H H' b = some o := by
  unfold fresh
  rw [n]
  exact h
def Dn (H H' : Hp) (v : V) (d : PyData) : Prop := Dr (fresh H H') v d
def Dns (H H' : Hp) (v : List V) (d : List PyData) : Prop := Drs (fresh H H') v d
theorem fresh_up {H H1 H2 : Hp} (s : Same H1 H2) : Same (fresh H H1) (fresh H H2) := fun b o e => by
  obtain ⟨n, h⟩ := fresh_get e
  exact fresh_of n (s _ _ h)
theorem fresh_dn {H H1 H2 : Hp} (s : Same H H1) : Same (fresh H1 H2) (fresh H H2) := fun b o e => by
  obtain ⟨n, h⟩ := fresh_get e
  refine fresh_of ?_ h
  cases q : H b with
  | none => rfl
  | some u =>
    rw [s _ _ q] at n
    cases n
theorem fresh_hid {c : Addr} {H H' : Hp} {x : HO} (n : H c = some x) : Same (fresh H H') (hid c H') := fun b o e => by
  obtain ⟨m, h⟩ := fresh_get e
  refine hid_of h ?_
  rintro rfl
  rw [n] at m
  cases m
theorem Dn.dh {c : Addr} {H H' : Hp} {v : V} {d : PyData} {x : HO} (h : Dn H H' v d) (n : H c = some x) : Dh c H' v d := Dr.mono h (fresh_hid n)
theorem Dn.tape {c : Addr} {k : Nat} {H H' : Hp} {v : V} {d : PyData} (h : Dn H H' v d) (t : TapeAt c k H) : Dh c H' v d := by
  obtain ⟨_, _, _, e, _⟩ := t
  exact h.dh e
theorem Dns.tape {c : Addr} {k : Nat} {H H' : Hp} {v : List V} {d : List PyData} (h : Dns H H' v d) (t : TapeAt c k H) : Dhs c H' v d := by
  obtain ⟨_, _, _, e, _⟩ := t
  exact Drs.mono h (fresh_hid e)
theorem Dn.dr {H H' : Hp} {v : V} {d : PyData} (h : Dn H H' v d) : Dr H' v d := Dr.mono h fun b o e => (fresh_get e).2
def tData (d : PyData) : TE := fun _ H Q => ∀ H' v, Same H H' → Dn H H' v d → Q v H'
def tDatas (ds : List PyData) : TA := fun _ H Q => ∀ H' vs, Same H H' → Dns H H' vs ds → Q vs H'
section
variable {X : Cx} {e : Expr} {es : List Expr} {t t' : TE} {ta ta' : TA} {d : PyData} {ds : List PyData} {pos : Pos}
theorem pe_weak (h : PE X e t') (w : ∀ σ H Q, t σ H Q → t' σ H Q) : PE X e t := ⟨fun pins s σ H Q I q => h.run pins s σ H Q I (w _ _ _ q)⟩
theorem pa_weak (h : PA X es ta') (w : ∀ σ H Q, ta σ H Q → ta' σ H Q) : PA X es ta := ⟨fun p pins s σ H Q I q => h.run p pins s σ H Q I (w _ _ _ q)⟩
theorem pd_int {i : Int} {j p} : PE X (.Constant (.int i) j p) (tData (.int i)) := pe_weak pe_int fun _ H Q q => q H _ (Same.refl _) (.int _)
theorem pd_bl {b : Bool} {j p} : PE X (.Constant (.bool b) j p) (tData (.bool b)) := pe_weak pe_bl fun _ H Q q => q H _ (Same.refl _) (.bl _)
theorem pd_non {j p} : PE X (.Constant .none j p) (tData .none) := pe_weak pe_non fun _ H Q q => q H _ (Same.refl _) .non
theorem pd_str {x : Str} {j p} : PE X (.Constant (.str x) j p) (tData (.str x)) := pe_weak pe_str fun _ H Q q => q H _ (Same.refl _) (.str _)
theorem pd_dict : PE X (.Dict [] [] pos) (tData (.dict [])) := pe_weak pe_dnewK fun _ H Q q p np => q _ _ (same_upd np) (.dk (fresh_of np upd_same))
theorem pds_nil : PA X [] (tDatas []) := pa_weak pa_nil fun _ H Q q => q H [] (Same.refl _) Drs.nil
theorem pds_cons (ha : PE X e (tData d)) (hr : PA X es (tDatas ds)) (hs : starEach (e :: es) X.env = (false, eval e X.env) :: starEach es X.env := by rfl) : PA X (e :: es) (tDatas (d :: ds)) :=
  pa_weak (pa_cons ha hr hs) fun _ H Q q H1 v s1 h1 H2 vs s2 h2 => q H2 (v :: vs) (s1.trans s2) (Drs.cons (Dr.mono h1 (fresh_up s2)) (Drs.mono h2 (fresh_dn s1)))
theorem pd_tup {x1} (h : PA X es (tDatas ds)) (l : ds.length ≤ 1000 := by decide) : PE X (.Tuple es x1 pos) (tData (.tuple ds)) :=
  pe_weak (pe_tup h) fun _ H Q q H1 vs s1 h1 => ⟨by rw [h1.1]; exact Nat.le_trans l (by decide), fun p np => q _ _ (s1.trans (same_upd np)) (Dr.ts (fresh_of (s1.free np) upd_same) (Drs.mono h1 (fresh_up (same_upd np))))⟩
theorem pd_lst (h : PA X es (tDatas ds)) (l : ds.length ≤ 1000 := by decide) : PE X (.List es pos) (tData (.list ds)) :=
  pe_weak (pe_lst h) fun _ H Q q H1 vs s1 h1 => ⟨by rw [h1.1]; exact Nat.le_trans l (by decide), fun p np => q _ _ (s1.trans (same_upd np)) (Dr.ls (fresh_of (s1.free np) upd_same) (Drs.mono h1 (fresh_up (same_upd np))))⟩
theorem pd_neg {i : Int} (h : PE X e (tData (.int i))) : PE X (.UnaryOp .USub e pos) (tData (.int (-i))) :=
  pe_weak (pe_un un_neg h) fun _ H Q q H1 v s1 h1 => ⟨i, h1.toInt, q H1 _ s1 (.int _)⟩
theorem pd_pow {f : Expr} {a b : Int} (h : PE X e (tData (.int a))) (h' : PE X f (tData (.int b))) (o : 0 ≤ b ∧ b ≤ 1000000 ∧ a.natAbs < 2 ^ 64 := by decide) : PE X (.BinOp e .Pow f pos) (tData (.int (a ^ b.toNat))) :=
  pe_weak (pe_op op_pow h h') fun _ H Q q H1 v s1 h1 H2 u s2 h2 => ⟨a, b, h1.toInt, h2.toInt, o, q H2 _ (s1.trans s2) (.int _)⟩
theorem pd_add {f : Expr} {a b : Int} (h : PE X e (tData (.int a))) (h' : PE X f (tData (.int b))) : PE X (.BinOp e .Add f pos) (tData (.int (a + b))) :=
  pe_weak (pe_op op_add h h') fun _ H Q q H1 v s1 h1 H2 u s2 h2 => ⟨a, b, h1.toInt, h2.toInt, q H2 _ (s1.trans s2) (.int _)⟩
theorem pd_sub {f : Expr} {a b : Int} (h : PE X e (tData (.int a))) (h' : PE X f (tData (.int b))) : PE X (.BinOp e .Sub f pos) (tData (.int (a - b))) :=
  pe_weak (pe_op op_sub h h') fun _ H Q q H1 v s1 h1 H2 u s2 h2 => ⟨a, b, h1.toInt, h2.toInt, q H2 _ (s1.trans s2) (.int _)⟩
theorem flat_len {α : Type} (n : Nat) (l : List α) : (List.replicate n l).flatten.length = n * l.length := by
  induction n with
  | zero => simp
  | succ n ih => rw [List.replicate_succ, List.flatten_cons, List.length_append, ih, Nat.succ_mul, Nat.add_comm]
theorem Drs.rep {H : Hp} {vs : List V} {ds : List PyData} (h : Drs H vs ds) : ∀ n : Nat, Drs H (List.replicate n vs).flatten (List.replicate n ds).flatten
  | 0 => Drs.nil
  | n + 1 => by
    rw [List.replicate_succ, List.replicate_succ, List.flatten_cons, List.flatten_cons]
    exact h.app (Drs.rep h n)
theorem pd_rep {f : Expr} {k : Int} (h : PE X e (tData (.tuple ds))) (h' : PE X f (tData (.int k))) (o : 2 ≤ k ∧ k ≤ 1000 ∧ ds.length ≤ 1000 ∧ 0 < ds.length := by decide) : PE X (.BinOp e .Mult f pos) (tData (.tuple (List.replicate k.toNat ds).flatten)) :=
  pe_weak (pe_op op_repT h h') fun _ H Q q H1 v s1 h1 H2 u s2 h2 => by
    obtain ⟨a, vs, rfl, ha, hv⟩ := Dr.tuple h1
    obtain ⟨n0, ha'⟩ := fresh_get ha
    refine ⟨a, k, vs, rfl, h2.toInt, SqT.of (s2 _ _ ha'), ?_, o.1, o.2.1, by rw [hv.1]; exact o.2.2.1, fun p np => ?_⟩
    · rintro rfl
      have := hv.1
      have := o.2.2.2
      simp at *
      omega
    · have s3 := s1.trans s2
      refine q _ _ (s3.trans (same_upd np)) (Dr.ts (fresh_of (s3.free np) upd_same) ?_)
      exact Drs.rep (Drs.mono hv (fresh_up (s2.trans (same_upd np)))) _
end
/-! tuples put together and cut, told at once -/
def rCatB : R2 := fun x y H Q => ∃ a b xs ys, x = .ref a ∧ y = .ref b ∧ H a = some (.tup xs) ∧ H b = some (.tup ys) ∧ xs.length + ys.length ≤ 1000 ∧ ∀ H' r, Same H H' → H' r = some (.tup (xs ++ ys)) → Q (.ref r) H'
theorem op_catB {X : Cx} : OpR X (binaryOp .Add) rCatB := fun pins s σ H x y v u Q I rx ry h => by
  obtain ⟨a, b, xs, ys, rfl, rfl, ha, hb, l, k⟩ := h
  refine op_catA pins s σ H _ _ v u Q I rx ry ⟨a, b, xs, ys, rfl, rfl, SqT.of ha, SqT.of hb, Nat.le_trans l (by decide), fun e => ?_, fun _ e => ?_, fun _ _ p np => k _ p (same_upd np) upd_same⟩
  · subst e
    exact k H b (Same.refl _) hb
  · subst e
    exact k H a (Same.refl _) (by rw [List.append_nil]; exact ha)
def rSlB : V → Option Int → Option Int → Hp → VK → Prop := fun x lo hi H Q => ∃ a xs, x = .ref a ∧ H a = some (.tup xs) ∧ ∀ H' r, Same H H' → H' r = some (.tup (cutV xs lo hi)) → Q (.ref r) H'
theorem sl_tupB {X : Cx} : L2.SlR X rSlB := fun pins s σ H x v vl vu lo hi sl Q I rx hs pl pu h => by
  obtain ⟨a, xs, rfl, ha, k⟩ := h
  refine sl_tupA pins s σ H _ v vl vu lo hi sl Q I rx hs pl pu ⟨a, xs, rfl, SqT.of ha, fun e => ?_, fun _ p np => k _ p (same_upd np) upd_same⟩
  refine k H a (Same.refl _) ?_
  rw [ha]
  unfold cutV
  rw [e.1, e.2, List.drop_zero, Nat.sub_zero, List.take_length]
theorem cutT {xs : List V} {i : Nat} (h : i ≤ xs.length) : cutV xs none (some (i : Int)) = xs.take i := by
  unfold cutV
  rw [HT.sIx_none, HT.sIx_nat, Nat.min_eq_left h, Nat.sub_zero, List.drop_zero]
theorem cutD {xs : List V} {i : Nat} (h : i ≤ xs.length) : cutV xs (some (i : Int)) none = xs.drop i := by
  unfold cutV
  rw [HT.sIx_none, HT.sIx_nat, Nat.min_eq_left h, List.take_of_length_le (by rw [List.length_drop]; omega)]
theorem cutL {xs : List V} : cutV xs none (some (-1)) = xs.take (xs.length - 1) := by
  unfold cutV
  rw [HT.sIx_none, show HT.sIx xs.length xs.length (some (-1)) = ((-1) + (xs.length : Int)).toNat from rfl, List.drop_zero, Nat.sub_zero]
  congr 1
  omega
end RL

set_option maxHeartbeats 2000000
namespace RL
open PySem L2 PySem.Spec PyProof.Rows
theorem PiecesAt.rev {H : Hp} {vs : List V} {r : List Pc} (h : PiecesAt H vs r) : PiecesAt H vs.reverse r.reverse := by
  refine ⟨by rw [List.length_reverse, List.length_reverse, h.1], fun i p hp => ?_⟩
  have hi : i < r.length := by
    have := (List.getElem?_eq_some_iff.mp hp).1
    rw [List.length_reverse] at this
    exact this
  rw [List.getElem?_reverse hi] at hp
  obtain ⟨v, hv, q⟩ := h.2 _ p hp
  refine ⟨v, ?_, q⟩
  rw [List.getElem?_reverse (by rw [h.1]; exact hi), h.1]
  exact hv
theorem RowOk.rev {r : List Pc} (h : RowOk r) : RowOk r.reverse := fun p hp => h p (List.mem_reverse.mp hp)
theorem walk_act (l : List Pc) (e : Int × Int) : l.foldl (fun e p => act p e) e = actR l.reverse e := by
  unfold actR
  rw [List.foldr_reverse]
theorem actR_sm {r : List Pc} {e : Int × Int} {n : Nat} (hr : RowOk r) (l8 : r.length ≤ 8) (h1 : Sm n e.1) (h2 : Sm n e.2) : Sm (n + 31) (actR r e).1 ∧ Sm (n + 31) (actR r e).2 := by
  have := app_sm (matR_sm30 hr l8) h1 h2
  rw [mat_app] at this
  exact ⟨this.1.mono (by omega), this.2.mono (by omega)⟩
theorem low_int (i : Int) : low (i, 1) = (i, 1) := by
  have h1 : gc i 1 = 1 := by
    have := Int.le_of_dvd (by decide) (gc_dvd2 i 1)
    have := gc_pos (a := i) (b := 1) (by omega)
    omega
  unfold low
  dsimp
  rw [h1, Int.ediv_one]
  rfl
def spLed : Sp := fun vs H Q _ => ∃ (v : V) (t : Addr) (r : List Pc) (e : Int × Int), vs = [v, .ref t] ∧ RowT H v r ∧ PairAt H t e ∧ Sm 3900 e.1 ∧ Sm 3900 e.2 ∧ ∀ H' p, Same H H' → H p = none → PairAt H' p (actR r e) → Q (.ref p) H'
def spAfter : Sp := fun vs H Q _ => ∃ (v : V) (t : Addr) (r : List Pc) (e : Int × Int) (n : Int), vs = [v, .ref t, .int n] ∧ RowT H v r ∧ PairAt H t e ∧ Pos2 e ∧ Sm 700 e.1 ∧ Sm 700 e.2 ∧ 0 ≤ n ∧ n ≤ 100 ∧ ∀ H' p, Same H H' → H p = none → PairAt H' p (low (appN (matR r) n.toNat e)) → Q (.ref p) H'
def spFrac : Sp := fun vs H Q _ => ∃ (v : V) (d : PyData), vs = [v] ∧ Dr H v d ∧ numG d = true ∧ SmD 4000 d ∧ ∀ H' p, Same H H' → H p = none → PairAt H' p (low (prOf d)) → Q (.ref p) H'
def spIsLoad : Sp := fun vs H Q _ => ∃ (v : V) (d : PyData), vs = [v] ∧ Dr H v d ∧ Nd d ∧ ∀ H', Same H H' → Q (.bl (resG d)) H'
def spIsNum : Sp := fun vs H Q _ => ∃ (v : V) (d : PyData), vs = [v] ∧ Dr H v d ∧ Nd d ∧ ∀ H', Same H H' → Q (.bl (numG d)) H'
def spIsRow : Sp := fun vs H Q _ => ∃ (v : V) (d : PyData), vs = [v] ∧ Dr H v d ∧ Nd d ∧ ∀ H', Same H H' → Q (.bl (rowG d)) H'
def spWhole : Sp := fun vs H Q _ => ∃ (v : V) (d : PyData) (lo hi : Int), vs = [v, .int lo, .int hi] ∧ Dr H v d ∧ Q (.bl (withinD d lo hi)) H
section
variable {P : Program} {w : World} {K : PySem.W.Frag} {mg : Str → Option Value} {base : Heap} {tG t1 t3 tC tK : Tok} {aO aW aCh : Addr}
abbrev s_law_lowest : Stmt := top 73
theorem sc_law_lowest : FnScope ["_law_top", "_law_bottom", "_law_one", "_law_two"] ["_law_top", "_law_bottom"] (defScope s_law_lowest) := ⟨rfl, rfl, rfl, by decide +kernel, rfl, by decide +kernel, by decide +kernel⟩

theorem ok_lowest {f : Addr} {fd : FuncData} (F : Fun K "_law_lowest" "_law_lowest" s_law_lowest f fd) (T : Txt K mg) : FnOk P w K mg base CX0 1 f fd ["_law_top", "_law_bottom"] spPair := by
  refine F.ok sc_law_lowest (fun vs H Q E h => ?_) (fun cdv A outer s H vs Q E hr h => ?_)
  · obtain ⟨t, b, rfl, _⟩ := h
    rfl
  · obtain ⟨t, b, rfl, tb, ts, bs, k⟩ := h
    obtain ⟨t0, b0, _⟩ := id tb
    refine ⟨_, (pss_cons (ps_par (by rfl) sc_law_lowest.nd (i := 2) (j := 3) rfl rfl (by decide) rfl rfl (pa_cons (pv 0) (pa_cons (pv 1) pa_nil)) (by rfl))
      (pss_cons (ps_while PassesOwn.never (pt_cmpR op_gt (pv 3) pe_int (nomark _)) (pss_one (ps_par (by rfl) sc_law_lowest.nd (i := 2) (j := 3) rfl rfl (by decide) rfl rfl (pa_cons (pv 3) (pa_cons (pe_op op_mod (pe_callTy call_int1 (by rfl) T.int_ (by decide +kernel) (pa_cons (pv 2) pa_nil)) (pe_callTy call_int1 (by rfl) T.int_ (by decide +kernel) (pa_cons (pv 3) pa_nil))) pa_nil)) (by rfl))))
      (pss_one (ps_ret (pe_tup (pa_cons (pe_op op_fdivW (pv 0) (pv 2)) (pa_cons (pe_op op_fdivW (pv 1) (pv 2)) pa_nil))))))), ?_⟩
    refine ⟨_, rfl, _, rfl, _, _, rfl, ?_⟩
    refine while_by (fun σ H' => H' = H ∧ ∃ x y : Int, σ = [some (.int t), some (.int b), some (.int x), some (.int y)] ∧ 0 ≤ x ∧ 0 ≤ y ∧ gc x y = gc t b) (fun σ _ => match σ with | [_, _, _, some (.int y)] => y.toNat | _ => 0) ⟨rfl, t, b, rfl, t0, b0, rfl⟩ ?_ ?_
    · rintro σ H' ⟨rfl, x, y, rfl, x0, y0, eg⟩
      refine ⟨_, rfl, _, _, rfl, rfl, _, rfl, ite2 (fun e => ?_) (fun e => ?_)⟩
      · have e0 : 0 < y := of_decide_eq_true e
        refine ⟨_, rfl, _, rfl, .inl ⟨_, rfl, _, rfl, .inl ⟨_, rfl, _, _, rfl, rfl, e0, _, _, rfl, ?_⟩⟩⟩
        have q1 := Int.emod_nonneg x (show y ≠ 0 by omega)
        have q2 := Int.emod_lt_of_pos x e0
        refine ⟨⟨rfl, y, x % y, rfl, y0, q1, ?_⟩, ?_⟩
        · rw [gc_step x0 e0, eg]
        · show (x % y).toNat < y.toNat
          omega
      · have e0 : ¬ 0 < y := fun z => e (decide_eq_true z)
        have y1 : y = 0 := by omega
        subst y1
        rw [gc_zero x0] at eg
        have g0 : 0 < gc t b := gc_pos2 tb
        have gs : Sm 4000 x := by
          rw [eg]
          exact gc_sm tb ts bs
        subst eg
        refine ⟨_, rfl, _, rfl, _, _, rfl, rfl, wide_div g0 gs (by decide) (by decide), _, rfl, _, rfl, _, _, rfl, rfl, wide_div g0 gs (by decide) (by decide), (by show 2 ≤ sizeLine; decide), fun p hp => ?_⟩
        exact k _ _ (same_upd hp) hp upd_same
    · rintro σ H' Q1 Q2 hq h
      obtain ⟨v, e1, i, j, e2, e3, z⟩ := h
      exact ⟨v, e1, i, j, e2, e3, z.imp fun k z => ⟨z.1, hq _ _ z.2⟩⟩
abbrev s_law_frac : Stmt := top 74
theorem sc_law_frac : FnScope ["_law_thing"] ["_law_thing"] (defScope s_law_frac) := ⟨rfl, rfl, rfl, by decide +kernel, rfl, by decide +kernel, by decide +kernel⟩

theorem ok_frac {f : Addr} {fd : FuncData} (F : Fun K "_law_frac" "_law_frac" s_law_frac f fd) (T : Txt K mg) (D_law_lowest : Df P w K mg base 1 "_law_lowest" ["_law_top", "_law_bottom"] spPair) : FnOk P w K mg base CX0 2 f fd ["_law_thing"] spFrac := by
  refine F.ok sc_law_frac (fun vs H Q E h => ?_) (fun cdv A outer s H vs Q E hr h => ?_)
  · obtain ⟨v, d, rfl, _⟩ := h
    rfl
  · obtain ⟨v, d, rfl, hd, hn, hs, k⟩ := h
    refine ⟨_, (pss_one (ps_ret (pe_ifExp (pt_val (pe_callB call_isi (by rfl) T.isinstance (by decide +kernel) (pa_cons (pv 0) (pa_cons (pe_bltn (v := .ty "tuple") (by rfl) T.tuple_ (by decide +kernel) rfl) pa_nil)))) (pe_df D_law_lowest (hr.mono (by decide)) (by rfl) (pa_cons (pe_ix ix_tup (pv 0) pe_int (fun _ _ => rfl)) (pa_cons (pe_ix ix_tup (pv 0) pe_int (fun _ _ => rfl)) pa_nil))) (pe_tup (pa_cons (pv 0) (pa_cons pe_int pa_nil)))))), ?_⟩
    refine ⟨_, rfl, _, _, _, _, isTupD d, rfl, .ty _, ty_dr hd, kit_tup d, _, rfl, ?_⟩
    rcases num_of hn with ⟨i, rfl, i0⟩ | ⟨a, b, rfl, p⟩
    · cases hd.toInt
      refine iteF ⟨_, rfl, (by show 2 ≤ sizeLine; decide), fun p np => k _ p (same_upd np) np ?_⟩
      show PairAt _ p (low (i, 1))
      rw [low_int]
      exact upd_same
    · obtain ⟨t, ys, rfl, ht, hy⟩ := hd.tuple
      obtain ⟨rfl⟩ : ys = [.int a, .int b] := by
        match ys, hy with
        | [x, y], hy =>
          have h1 := hy.inv.1.toInt
          have h2 := hy.inv.2.inv.1.toInt
          rw [h1, h2]
        | [], hy => exact absurd hy.1 (by simp)
        | [_], hy => exact absurd hy.1 (by simp)
        | _ :: _ :: _ :: _, hy => exact absurd hy.1 (by simp)
      refine iteT ⟨_, rfl, t, _, _, _, rfl, rfl, SqT.of ht, atI_nat (j := 0) rfl, _, rfl, t, _, _, _, rfl, rfl, SqT.of ht, atI_nat (j := 1) rfl, ?_⟩
      exact ⟨a, b, rfl, p, hs.1, hs.2, fun H' q s nq hq => k _ q s nq hq⟩
abbrev s_law_led : Stmt := top 76
theorem sc_law_led : FnScope ["_law_row", "_law_pair", "_law_top", "_law_bottom", "_law_word", "_law_size"] ["_law_row", "_law_pair"] (defScope s_law_led) := ⟨rfl, rfl, rfl, by decide +kernel, rfl, by decide +kernel, by decide +kernel⟩

theorem ok_led {f : Addr} {fd : FuncData} (F : Fun K "_law_led" "_law_led" s_law_led f fd) : FnOk P w K mg base CX0 1 f fd ["_law_row", "_law_pair"] spLed := by
  refine F.ok sc_law_led (fun vs H Q E h => ?_) (fun cdv A outer s H vs Q E hr h => ?_)
  · obtain ⟨v, t, r, e, rfl, _⟩ := h
    rfl
  · obtain ⟨v, p, r, e, rfl, ⟨a, ws, rfl, ha, hw, hok, _, l8⟩, hp, es1, es2, k⟩ := h
    refine ⟨_, (pss_cons (ps_asg (pv 1) (pg_tup rfl (pgs_cons (pg_name (i := 2) sc_law_led.nd rfl (.inl rfl)) (pgs_cons (pg_name (i := 3) sc_law_led.nd rfl (.inl rfl)) pgs_nil))))
      (pss_cons (ps_for PassesOwn.never rfl (pi_tup (pe_revT (pv 0))) (pg_tup rfl (pgs_cons (pg_name (i := 4) sc_law_led.nd rfl (.inl rfl)) (pgs_cons (pg_name (i := 5) sc_law_led.nd rfl (.inl rfl)) pgs_nil))) (pss_one (ps_if (pt_cmpR op_eq (pv 4) pe_str (nomark _)) (pss_one (ps_set (i := 2) sc_law_led.nd rfl (.inl rfl) (pe_op op_add (pv 2) (pe_op op_mulX (pv 5) (pv 3))))) (pss_one (ps_par (by rfl) sc_law_led.nd (i := 2) (j := 3) rfl rfl (by decide) rfl rfl (pa_cons (pe_op op_mulX (pv 5) (pv 2)) (pa_cons (pe_op op_add (pe_op op_mulX (pv 5) (pv 3)) (pv 2)) pa_nil)) (by rfl))))))
      (pss_one (ps_ret (pe_tup (pa_cons (pv 2) (pa_cons (pv 3) pa_nil))))))), ?_⟩
    refine ⟨_, rfl, p, _, rfl, SqT.of hp, rfl, _, _, rfl, _, _, rfl, rfl, ?_⟩
    refine ⟨_, rfl, a, ws, rfl, SqT.of ha, fun q nq => ?_⟩
    have s1 := same_upd (o := .tup ws.reverse) nq
    have hq : (upd H q (.tup ws.reverse)) q = some (.tup ws.reverse) := upd_same
    generalize upd H q (.tup ws.reverse) = H1 at *
    have hwr := (hw.same s1).rev
    refine ⟨q, rfl, ⟨_, SqT.of hq⟩, for_tup (K := K) (a := q) (xs := ws.reverse) (fun i σ H' => H' = H1 ∧ ∃ v1 v2, σ = [some (.ref a), some (.ref p), some (.int ((r.reverse.take i).foldl (fun e p => act p e) e).1), some (.int ((r.reverse.take i).foldl (fun e p => act p e) e).2), v1, v2]) ⟨rfl, none, none, rfl⟩ (fun i σ H' _ h => by rw [h.1]; exact SqT.of hq) ?_ ?_⟩
    · rintro i y σ H' hx ⟨rfl, v1, v2, rfl⟩
      obtain ⟨pc, hpc, t, rfl, ht⟩ := hwr.at_ hx
      have hi : i < r.length := by
        have := (List.getElem?_eq_some_iff.mp hpc).1
        rw [List.length_reverse] at this
        exact this
      have f1 : (r.reverse.take (i + 1)).foldl (fun e p => act p e) e = act pc ((r.reverse.take i).foldl (fun e p => act p e) e) := by rw [take_snoc hpc, List.foldl_append]; rfl
      have okt : RowOk (r.reverse.take i).reverse := fun z hz => hok z (List.mem_reverse.mp (List.mem_of_mem_take (List.mem_reverse.mp hz)))
      have len : (r.reverse.take i).reverse.length ≤ 8 := by
        rw [List.length_reverse, List.length_take]
        omega
      have ms := actR_sm okt len es1 es2
      rw [← walk_act] at ms
      have po := ohm_sm (hok.rev.at_ hpc)
      rw [f1]
      generalize (r.reverse.take i).foldl (fun e p => act p e) e = g at *
      refine ⟨t, _, rfl, SqT.of ht, rfl, _, _, rfl, _, _, rfl, rfl, ?_⟩
      refine ⟨_, rfl, rfl, _, rfl, ite2 (fun e => ?_) (fun e => ?_)⟩
      · have r1 : pc.1 = true := wd_inj (r' := true) (V.str.inj (of_decide_eq_true e))
        unfold act
        rw [if_pos r1]
        exact ⟨_, rfl, _, rfl, _, rfl, _, _, rfl, rfl, mx po ms.2, _, _, rfl, rfl, rfl, _, _, rfl⟩
      · have r1 : ¬ pc.1 = true := fun z => e (decide_eq_true (by rw [z]; rfl))
        unfold act
        rw [if_neg r1]
        dsimp only
        rw [Int.add_comm g.1]
        exact ⟨_, rfl, _, rfl, _, _, rfl, rfl, mx po ms.1, _, rfl, _, rfl, _, _, rfl, rfl, mx po ms.2, _, rfl, _, _, rfl, rfl, _, _, rfl, rfl, _, _, rfl⟩
    · rintro σ H' ⟨rfl, v1, v2, rfl⟩
      have e0 : (r.reverse.take ws.reverse.length).foldl (fun e p => act p e) e = actR r e := by
        rw [List.length_reverse, hw.1, ← List.length_reverse, List.take_length, walk_act, List.reverse_reverse]
      rw [e0]
      exact ⟨_, rfl, _, rfl, (by show 2 ≤ sizeLine; decide), fun t nt => k _ t (s1.trans (same_upd nt)) (s1.free nt) upd_same⟩
abbrev s_law_after : Stmt := top 77
theorem sc_law_after : FnScope ["_law_row", "_law_pair", "_law_many", "_law_found", "_law_turn"] ["_law_row", "_law_pair", "_law_many"] (defScope s_law_after) := ⟨rfl, rfl, rfl, by decide +kernel, rfl, by decide +kernel, by decide +kernel⟩

theorem ok_after {f : Addr} {fd : FuncData} (F : Fun K "_law_after" "_law_after" s_law_after f fd) (T : Txt K mg) (D_law_led : Df P w K mg base 1 "_law_led" ["_law_row", "_law_pair"] spLed) (D_law_lowest : Df P w K mg base 1 "_law_lowest" ["_law_top", "_law_bottom"] spPair) : FnOk P w K mg base CX0 2 f fd ["_law_row", "_law_pair", "_law_many"] spAfter := by
  refine F.ok sc_law_after (fun vs H Q E h => ?_) (fun cdv A outer s H vs Q E hr h => ?_)
  · obtain ⟨v, t, r, e, n, rfl, _⟩ := h
    rfl
  · obtain ⟨v, t, r, e, n, rfl, hrow, ht, ep, es1, es2, n0, n1, k⟩ := h
    obtain ⟨_, _, _, _, _, hok, _, l8⟩ := id hrow
    refine ⟨_, (pss_cons (ps_set (i := 3) sc_law_after.nd rfl (.inl rfl) (pv 1))
      (pss_cons (ps_for PassesOwn.never rfl (pi_range1 rfl T.range (pa_cons (pv 2) pa_nil)) (pg_name (i := 4) sc_law_after.nd rfl (.inl rfl)) (pss_one (ps_set (i := 3) sc_law_after.nd rfl (.inl rfl) (pe_df D_law_led (hr.mono (by decide)) (by rfl) (pa_cons (pv 0) (pa_cons (pv 3) pa_nil))))))
      (pss_one (ps_ret (pe_df D_law_lowest (hr.mono (by decide)) (by rfl) (pa_cons (pe_ix ix_tup (pv 3) pe_int (fun _ _ => rfl)) (pa_cons (pe_ix ix_tup (pv 3) pe_int (fun _ _ => rfl)) pa_nil))))))), ?_⟩
    refine ⟨_, rfl, ?_⟩
    refine ⟨_, rfl, n, rfl, by omega, by omega, ?_⟩
    refine for_range (lo := 0) (n := n.toNat) (fun i σ H' => Same H H' ∧ ∃ p v5, σ = [some v, some (.ref t), some (.int n), some (.ref p), v5] ∧ PairAt H' p (appN (matR r) i e)) ⟨Same.refl _, t, none, rfl, ht⟩ ?_ ?_
    · rintro i σ H' hi ⟨sm, p', v5, rfl, hp'⟩
      obtain ⟨z1, z2⟩ := appN_sm hok l8 es1 es2 i
      refine ⟨_, rfl, _, rfl, v, p', r, _, rfl, hrow.same sm, hp', z1.mono (by omega), z2.mono (by omega), fun H2 q sq nq hq => ?_⟩
      rw [← mat_app] at hq
      exact ⟨sm.trans sq, q, _, rfl, hq⟩
    · rintro σ H' ⟨sm, p', v5, rfl, hp'⟩
      obtain ⟨z1, z2⟩ := appN_sm hok l8 es1 es2 n.toNat
      refine ⟨_, rfl, p', _, _, _, rfl, rfl, SqT.of hp', atI_nat (j := 0) rfl, _, rfl, p', _, _, _, rfl, rfl, SqT.of hp', atI_nat (j := 1) rfl, ?_⟩
      exact ⟨_, _, rfl, appN_pos hok ep _, z1.mono (by omega), z2.mono (by omega), fun H2 q s2 nq hq => k _ q (sm.trans s2) (sm.free nq) hq⟩
abbrev s_law_is_whole : Stmt := top 84
theorem sc_law_is_whole : FnScope ["_law_thing", "_law_first", "_law_last"] ["_law_thing", "_law_first", "_law_last"] (defScope s_law_is_whole) := ⟨rfl, rfl, rfl, by decide +kernel, rfl, by decide +kernel, by decide +kernel⟩

theorem ok_whole {f : Addr} {fd : FuncData} (F : Fun K "_law_is_whole" "_law_is_whole" s_law_is_whole f fd) (T : Txt K mg) : FnOk P w K mg base CX0 1 f fd ["_law_thing", "_law_first", "_law_last"] spWhole := by
  refine F.ok sc_law_is_whole (fun vs H Q E h => ?_) (fun cdv A outer s H vs Q E hr h => ?_)
  · obtain ⟨v, d, lo, hi, rfl, _⟩ := h
    rfl
  · obtain ⟨v, d, lo, hi, rfl, hd, k⟩ := h
    refine ⟨_, (pss_one (ps_ret (pe_and (pe_callB call_isi (by rfl) T.isinstance (by decide +kernel) (pa_cons (pv 0) (pa_cons (pe_bltn (v := .ty "int") (by rfl) T.int_ (by decide +kernel) rfl) pa_nil))) (pe_and (pe_not (pe_callB call_isi (by rfl) T.isinstance (by decide +kernel) (pa_cons (pv 0) (pa_cons (pe_bltn (v := .ty "bool") (by rfl) T.bool_ (by decide +kernel) rfl) pa_nil)))) (pe_one (pe_chain op_le op_le (pv 1) (pv 0) (pv 2))))))), ?_⟩
    refine ⟨_, rfl, _, _, _, _, intOrBool d, rfl, .ty _, ty_dr hd, kit_int d, _, rfl, ?_⟩
    cases h1 : intOrBool d with
    | false =>
      have e : withinD d lo hi = false := by cases d <;> first | rfl | exact absurd h1 (by simp [intOrBool])
      rw [e] at k
      exact iteF k
    | true =>
      refine iteT ⟨_, rfl, _, _, _, _, isBoolD d, rfl, .ty _, ty_dr hd, kit_bool d, _, rfl, ?_⟩
      cases h2 : isBoolD d with
      | true =>
        have e : withinD d lo hi = false := by cases d <;> first | rfl | exact absurd h2 (by simp [isBoolD])
        rw [e] at k
        exact ⟨_, rfl, iteF k⟩
      | false =>
        obtain ⟨i, rfl⟩ : ∃ i, d = .int i := by cases d <;> first | exact ⟨_, rfl⟩ | (cases h1; done) | (cases h2; done)
        cases hd.toInt
        refine ⟨_, rfl, iteT ?_⟩
        refine ⟨_, rfl, _, rfl, _, _, rfl, rfl, _, rfl, ite2 (fun e1 => ?_) (fun e1 => ?_)⟩
        · refine ⟨_, rfl, _, _, rfl, rfl, ?_⟩
          have e : withinD (.int i) lo hi = decide (i ≤ hi) := by
            simp only [withinD]
            rw [e1]
            rfl
          rw [e] at k
          exact k
        · have e : withinD (.int i) lo hi = false := by
            simp only [withinD]
            rw [show decide (lo ≤ i) = false from Bool.eq_false_iff.mpr e1]
            rfl
          rw [e] at k
          exact k
end
end RL

set_option maxHeartbeats 2000000
namespace RL
open PySem L2 PySem.Spec PyProof.Rows
def bothOf : PyData → List PyData
  | .tuple ds => ds
  | d => [d, .int 1]
theorem bothOf_not {d : PyData} (h : isTupD d = false) : bothOf d = [d, .int 1] := by
  cases d <;> first | rfl | exact absurd h (by simp [isTupD])
def resQ : PyData → PyData → Bool
  | .int a, .int b => (decide (0 ≤ a) && decide (a ≤ 1000000000000) && (decide (1 ≤ b) && decide (b ≤ 1000000000000))) || decide (a = 1 ∧ b = 0)
  | _, _ => false
def numQ : PyData → PyData → Bool
  | .int a, .int b => (decide (0 ≤ a) && decide (0 < b)) || decide (a = 1 ∧ b = 0)
  | _, _ => false
def resP2 : List PyData → Bool
  | [a, b] => resQ a b
  | _ => false
def numP2 : List PyData → Bool
  | [a, b] => numQ a b
  | _ => false
theorem res_both (d : PyData) : resP2 (bothOf d) = resG d := by
  cases d with
  | tuple ds =>
    match ds with
    | [] => rfl
    | [_] => rfl
    | [a, b] =>
      show resQ a b = resOf a b
      cases a <;> first | rfl | (cases b <;> first | rfl | exact Bool.or_comm _ _)
    | _ :: _ :: _ :: _ => rfl
  | int i =>
    show ((decide (0 ≤ i) && decide (i ≤ 1000000000000) && (decide ((1 : Int) ≤ 1) && decide ((1 : Int) ≤ 1000000000000))) || decide (i = 1 ∧ (1 : Int) = 0)) = (decide (0 ≤ i) && decide (i ≤ 1000000000000))
    simp
  | _ => rfl
theorem num_both (d : PyData) : numP2 (bothOf d) = numG d := by
  cases d with
  | tuple ds =>
    match ds with
    | [] => rfl
    | [_] => rfl
    | [a, b] =>
      show numQ a b = numOf a b
      cases a <;> first | rfl | (cases b <;> first | rfl | exact Bool.or_comm _ _)
    | _ :: _ :: _ :: _ => rfl
  | int i =>
    show ((decide (0 ≤ i) && decide ((0 : Int) < 1)) || decide (i = 1 ∧ (1 : Int) = 0)) = decide (0 ≤ i)
    simp
  | _ => rfl
/-- some are no ints -/
def someOdd (ds : List PyData) : Bool := ds.any fun d => !isIntD d
theorem odd_res {ds : List PyData} (h : ds.length ≠ 2 ∨ someOdd ds = true) : resP2 ds = false ∧ numP2 ds = false := by
  match ds, h with
  | [], _ => exact ⟨rfl, rfl⟩
  | [_], _ => exact ⟨rfl, rfl⟩
  | [a, b], h =>
    rcases h with h | h
    · exact absurd rfl h
    · have h : (!isIntD a || (!isIntD b || false)) = true := h
      cases a <;> first | exact ⟨rfl, rfl⟩ | (cases b <;> first | exact ⟨rfl, rfl⟩ | exact absurd h (by simp [isIntD]))
  | _ :: _ :: _ :: _, _ => exact ⟨rfl, rfl⟩
theorem odd_no {ds : List PyData} (h : ds.length = 2) (o : someOdd ds = false) : ∃ a b : Int, ds = [.int a, .int b] := by
  match ds, h, o with
  | [a, b], _, o =>
    have o : (!isIntD a || (!isIntD b || false)) = false := o
    simp only [Bool.or_false, Bool.or_eq_false_iff, Bool.not_eq_false'] at o
    obtain ⟨i, rfl⟩ := int_of o.1
    obtain ⟨j, rfl⟩ := int_of o.2
    exact ⟨i, j, rfl⟩
section
variable {P : Program} {w : World} {K : PySem.W.Frag} {mg : Str → Option Value} {base : Heap} {tG t1 t3 tC tK : Tok} {aO aW aCh : Addr}
abbrev s_law_is_load : Stmt := top 83
theorem sc_law_is_load : FnScope ["_law_thing", "_law_both", "_law_x"] ["_law_thing"] (defScope s_law_is_load) := ⟨rfl, rfl, rfl, by decide +kernel, rfl, by decide +kernel, by decide +kernel⟩

theorem ok_isload {f : Addr} {fd : FuncData} (F : Fun K "_law_is_load" "_law_is_load" s_law_is_load f fd) (T : TxtA K mg w tG t1 t3 tC tK aO aW aCh) : FnOk P w K mg base CX0 1 f fd ["_law_thing"] spIsLoad := by
  refine F.ok sc_law_is_load (fun vs H Q E h => ?_) (fun cdv A outer s H vs Q E hr h => ?_)
  · obtain ⟨v, d, rfl, _⟩ := h
    rfl
  · obtain ⟨v, d, rfl, hd, nd, k⟩ := h
    refine ⟨_, (C8.pss_cut (ps_set (i := 1) sc_law_is_load.nd rfl (.inl rfl) (pe_ifExp (pt_val (pe_callB call_isi (by rfl) T.isinstance (by decide +kernel) (pa_cons (pv 0) (pa_cons (pe_bltn (v := .ty "tuple") (by rfl) T.tuple_ (by decide +kernel) rfl) pa_nil)))) (pv 0) (pe_tup (pa_cons (pv 0) (pa_cons pe_int pa_nil)))))
      (pss_cons (ps_if (PW.pt (pw_or (pt_cmpR op_ne (pe_callB call_len_seq (by rfl) T.len (by decide +kernel) (pa_cons (pv 1) pa_nil)) pe_int (nomark _)) (pw_or1 (pt_val (pe_callB (cr_any rfl) (by rfl) T.any (by decide +kernel) (pa_cons (pe_lc (own := [("_law_x", 2)]) (g := gName 2) (tt := tYes) rfl sc_law_is_load.nd (pi_tup (pv 1)) (blkOk_by (N := ["_law_thing", "_law_both", "_law_x"]) (sc := defScope s_law_is_load) (by decide +kernel)) (fun _ _ _ _ _ => pg_name (i := 2) sc_law_is_load.nd rfl (Or.inl rfl)) (fun _ _ _ _ _ => pts_nil) (fun _ _ _ _ _ => (pe_or (pe_not (pe_callB (call_isiK (K := K)) (by rfl) T.isinstance (by decide +kernel) (pa_cons (pv 2) (pa_cons (pe_bltn (v := .ty "int") (by rfl) T.int_ (by decide +kernel) rfl) pa_nil)))) (pe_one (pe_callB (call_isiK (K := K)) (by rfl) T.isinstance (by decide +kernel) (pa_cons (pv 2) (pa_cons (pe_bltn (v := .ty "bool") (by rfl) T.bool_ (by decide +kernel) rfl) pa_nil))))))) pa_nil)))))) (pss_one (ps_ret pe_bl)) pss_nil)
      (pss_one (ps_ret (pe_or (pe_and (pe_chain op_le op_le pe_int (pe_ix ix_tup (pv 1) pe_int (fun _ _ => rfl)) (pe_op op_pow pe_int pe_int)) (pe_one (pe_chain op_le op_le pe_int (pe_ix ix_tup (pv 1) pe_int (fun _ _ => rfl)) (pe_op op_pow pe_int pe_int)))) (pe_one (pe_cmpR (op_eqD hr.units) (pv 1) (pe_tup (pa_cons pe_int (pa_cons pe_int pa_nil))) (nomark _)))))))), ?_⟩
    refine ⟨fun σ' H' => ∃ t ys, σ' = [some v, some (.ref t), none] ∧ Same H H' ∧ H' t = some (.tup ys) ∧ Drs H' ys (bothOf d), ?_, ?_⟩
    · refine ⟨_, rfl, _, _, _, _, isTupD d, rfl, .ty _, ty_dr hd, kit_tup d, _, rfl, ?_⟩
      cases h1 : isTupD d with
      | true =>
        obtain ⟨ds, rfl⟩ : ∃ ds, d = .tuple ds := by cases d <;> first | exact ⟨_, rfl⟩ | exact absurd h1 (by simp [isTupD])
        obtain ⟨t, ys, rfl, ht, hy⟩ := hd.tuple
        exact iteT ⟨_, rfl, t, ys, rfl, Same.refl _, ht, hy⟩
      | false =>
        rw [bothOf_not h1]
        refine iteF ⟨_, rfl, (by show 2 ≤ sizeLine; decide), fun p np => ?_⟩
        have sp := same_upd (o := .tup [v, .int 1]) np
        exact ⟨p, _, rfl, sp, upd_same, .cons (hd.mono sp) (.cons (.int _) .nil)⟩
    rintro σ1 H1 ⟨t, ys, rfl, s1, ht, hy⟩
    have ndd : ∀ x ∈ bothOf d, Nd x := fun x hx => by
      cases h1 : isTupD d with
      | true =>
        obtain ⟨ds, rfl⟩ : ∃ ds, d = .tuple ds := by cases d <;> first | exact ⟨_, rfl⟩ | exact absurd h1 (by simp [isTupD])
        obtain ⟨i, hi⟩ := List.getElem?_of_mem hx
        exact .inl (nd.at_ hi)
      | false =>
        rw [bothOf_not h1] at hx
        simp only [List.mem_cons, List.not_mem_nil, or_false] at hx
        rcases hx with rfl | rfl
        · exact nd
        · exact .inl rfl
    rw [← res_both] at k
    generalize bothOf d = ds at *
    refine ⟨_, rfl, t, _, rfl, .inr (SqT.of ht), rfl, _, rfl, ite2 (fun e1 => ?_) (fun e1 => ?_)⟩
    · have nl : ds.length ≠ 2 := fun z => by
        rw [hy.1, z] at e1
        exact absurd e1 (by decide)
      rw [(odd_res (.inl nl)).1] at k
      exact k _ s1
    have l2 : ds.length = 2 := by
      have e2 : decide (V.int (ys.length : Int) = V.int 2) = true := by
        cases hh : decide (V.int (ys.length : Int) = V.int 2) with
        | true => rfl
        | false =>
          rw [hh] at e1
          exact absurd rfl e1
      have := V.int.inj (of_decide_eq_true e2)
      have := hy.1
      omega
    refine ⟨_, rfl, t, rfl, ⟨_, SqT.of ht⟩, fun D hD => ?_⟩
    refine lc_tup (K := K) (a := t) (xs := ys) (fun i H' => Same H1 H' ∧ H' D = some (.lst (((ds.take i).map fun d => !isIntD d).map V.bl))) ⟨same_upd hD, upd_same⟩ (fun i H' _ h => SqT.of (h.1 _ _ ht)) ?_ ?_
    · rintro i y H' hyi ⟨sD, hDi⟩
      obtain ⟨x, hx, hdx⟩ := hy.atv hyi
      have il : i < ds.length := (List.getElem?_eq_some_iff.mp hx).1
      have hdx' := hdx.mono sD
      refine ⟨rfl, ?_⟩
      unfold tYes
      refine iteT ?_
      have fin : ∃ acc, H' D = some (.lst acc) ∧ acc.length < sizeLine ∧ Same H1 (upd H' D (.lst (acc ++ [.bl (!isIntD x)]))) ∧ (upd H' D (.lst (acc ++ [.bl (!isIntD x)]))) D = some (.lst (((ds.take (i + 1)).map fun d => !isIntD d).map V.bl)) := by
        refine ⟨_, hDi, ?_, ?_, ?_⟩
        · rw [List.length_map, List.length_map, List.length_take]
          exact small1000 (by omega)
        · intro q o e
          rw [upd_ne (ne_of_none e hD)]
          exact sD _ _ e
        · rw [upd_same, take_snoc hx, List.map_append, List.map_append]
          rfl
      refine ⟨_, rfl, _, _, _, _, intOrBool x, rfl, .ty _, ty_dr hdx', kit_int x, _, rfl, _, rfl, ?_⟩
      cases h1 : intOrBool x with
      | false =>
        have e : isIntD x = false := by cases x <;> first | rfl | (cases h1; done)
        rw [e] at fin
        exact iteT fin
      | true =>
        refine iteF ⟨_, rfl, _, _, _, _, isBoolD x, rfl, .ty _, ty_dr hdx', kit_bool x, ?_⟩
        have e : isBoolD x = !isIntD x := by cases x <;> first | rfl | (cases h1; done)
        rw [e]
        exact fin
    · rintro H' ⟨sD, hDn⟩
      refine ⟨D, _, rfl, SqL.of hDn, _, rfl, ?_⟩
      have el : ((ds.take ys.length).map fun d => !isIntD d).any id = someOdd ds := by
        rw [hy.1, List.take_length, List.any_map]
        rfl
      rw [el]
      have s2 := s1.trans sD
      cases ho : someOdd ds with
      | true =>
        rw [(odd_res (.inr ho)).1] at k
        exact iteT (k _ s2)
      | false =>
        obtain ⟨a, b, rfl⟩ := odd_no l2 ho
        have ht' := sD _ _ ht
        obtain ⟨rfl⟩ : ys = [.int a, .int b] := by
          match ys, hy with
          | [x, y], hy =>
            have h1 := hy.inv.1.toInt
            have h2 := hy.inv.2.inv.1.toInt
            rw [h1, h2]
          | [], hy => exact absurd hy.1 (by simp)
          | [_], hy => exact absurd hy.1 (by simp)
          | _ :: _ :: _ :: _, hy => exact absurd hy.1 (by simp)
        have hdl : Drs H' [.int a, .int b] [.int a, .int b] := .cons (.int _) (.cons (.int _) .nil)
        have last : ∀ c : Bool, (∀ H'', Same H' H'' → Q (.bl (c || decide (a = 1 ∧ b = 0))) H'') → c = false → ∀ p, H' p = none → Q (.bl (PyData.eqv (.tuple [.int a, .int b]) (.tuple [.int 1, .int 0]))) (upd H' p (.tup [.int 1, .int 0])) := fun c q e p np => by
          subst e
          rw [eqv_open]
          exact q _ (same_upd np)
        refine iteF ?_
        have k : ∀ H'', Same H' H'' → Q (.bl ((decide (0 ≤ a) && decide (a ≤ 1000000000000) && (decide (1 ≤ b) && decide (b ≤ 1000000000000))) || decide (a = 1 ∧ b = 0))) H'' := fun H'' s => k H'' (s2.trans s)
        refine ⟨_, rfl, t, _, _, _, rfl, rfl, SqT.of ht', atI_nat (j := 0) rfl, _, _, rfl, rfl, _, rfl, ite2 (fun e0 => ?_) (fun e0 => ?_)⟩
        · refine ⟨_, _, rfl, rfl, ⟨by decide, by decide, by decide⟩, _, _, rfl, rfl, _, rfl, ite2 (fun e1 => ?_) (fun e1 => ?_)⟩
          · refine ⟨_, rfl, t, _, _, _, rfl, rfl, SqT.of ht', atI_nat (j := 1) rfl, _, _, rfl, rfl, _, rfl, ite2 (fun e2 => ?_) (fun e2 => ?_)⟩
            · refine ⟨_, _, rfl, rfl, ⟨by decide, by decide, by decide⟩, _, _, rfl, rfl, ?_⟩
              cases e3 : decide (b ≤ 1000000000000) with
              | true =>
                refine ⟨true, congrArg V.bl e3, iteT ?_⟩
                have k := k _ (Same.refl _)
                rw [show (decide (0 ≤ a) && decide (a ≤ 1000000000000) && (decide (1 ≤ b) && decide (b ≤ 1000000000000))) = true by rw [show decide (0 ≤ a) = true from e0, show decide (a ≤ 1000000000000) = true from e1, show decide (1 ≤ b) = true from e2, e3]; rfl, Bool.true_or] at k
                exact k
              | false =>
                refine ⟨false, congrArg V.bl e3, iteF ?_⟩
                refine ⟨_, rfl, (by show 2 ≤ sizeLine; decide), fun p np => ?_⟩
                have sp := same_upd (o := .tup [.int 1, .int 0]) np
                refine ⟨.tuple [.int a, .int b], .tuple [.int 1, .int 0], .tup (SqT.of (sp _ _ ht')) (.cons (.int _) (.cons (.int _) .nil)), .tup (SqT.of upd_same) (.cons (.int _) (.cons (.int _) .nil)), rfl, rfl, ?_⟩
                rw [eqv_open]
                have k := k _ sp
                rw [show (decide (0 ≤ a) && decide (a ≤ 1000000000000) && (decide (1 ≤ b) && decide (b ≤ 1000000000000))) = false by rw [e3, Bool.and_false, Bool.and_false], Bool.false_or] at k
                exact k
            · refine ⟨_, rfl, iteF ⟨_, rfl, (by show 2 ≤ sizeLine; decide), fun p np => ?_⟩⟩
              have sp := same_upd (o := .tup [.int 1, .int 0]) np
              refine ⟨.tuple [.int a, .int b], .tuple [.int 1, .int 0], .tup (SqT.of (sp _ _ ht')) (.cons (.int _) (.cons (.int _) .nil)), .tup (SqT.of upd_same) (.cons (.int _) (.cons (.int _) .nil)), rfl, rfl, ?_⟩
              rw [eqv_open]
              have k := k _ sp
              rw [show (decide (0 ≤ a) && decide (a ≤ 1000000000000) && (decide (1 ≤ b) && decide (b ≤ 1000000000000))) = false by rw [show decide (1 ≤ b) = false from Bool.eq_false_iff.mpr e2, Bool.false_and, Bool.and_false], Bool.false_or] at k
              exact k
          · refine ⟨_, rfl, iteF ⟨_, rfl, (by show 2 ≤ sizeLine; decide), fun p np => ?_⟩⟩
            have sp := same_upd (o := .tup [.int 1, .int 0]) np
            refine ⟨.tuple [.int a, .int b], .tuple [.int 1, .int 0], .tup (SqT.of (sp _ _ ht')) (.cons (.int _) (.cons (.int _) .nil)), .tup (SqT.of upd_same) (.cons (.int _) (.cons (.int _) .nil)), rfl, rfl, ?_⟩
            rw [eqv_open]
            have k := k _ sp
            rw [show (decide (0 ≤ a) && decide (a ≤ 1000000000000) && (decide (1 ≤ b) && decide (b ≤ 1000000000000))) = false by rw [show decide (a ≤ 1000000000000) = false from Bool.eq_false_iff.mpr e1, Bool.and_false, Bool.false_and], Bool.false_or] at k
            exact k
        · refine ⟨_, rfl, iteF ⟨_, rfl, iteF ⟨_, rfl, (by show 2 ≤ sizeLine; decide), fun p np => ?_⟩⟩⟩
          have sp := same_upd (o := .tup [.int 1, .int 0]) np
          refine ⟨.tuple [.int a, .int b], .tuple [.int 1, .int 0], .tup (SqT.of (sp _ _ ht')) (.cons (.int _) (.cons (.int _) .nil)), .tup (SqT.of upd_same) (.cons (.int _) (.cons (.int _) .nil)), rfl, rfl, ?_⟩
          rw [eqv_open]
          have k := k _ sp
          rw [show (decide (0 ≤ a) && decide (a ≤ 1000000000000) && (decide (1 ≤ b) && decide (b ≤ 1000000000000))) = false by rw [show decide (0 ≤ a) = false from Bool.eq_false_iff.mpr e0, Bool.false_and, Bool.false_and], Bool.false_or] at k
          exact k
abbrev s_law_is_number : Stmt := top 86
theorem sc_law_is_number : FnScope ["_law_thing", "_law_both", "_law_x"] ["_law_thing"] (defScope s_law_is_number) := ⟨rfl, rfl, rfl, by decide +kernel, rfl, by decide +kernel, by decide +kernel⟩

theorem ok_isnum {f : Addr} {fd : FuncData} (F : Fun K "_law_is_number" "_law_is_number" s_law_is_number f fd) (T : TxtA K mg w tG t1 t3 tC tK aO aW aCh) : FnOk P w K mg base CX0 1 f fd ["_law_thing"] spIsNum := by
  refine F.ok sc_law_is_number (fun vs H Q E h => ?_) (fun cdv A outer s H vs Q E hr h => ?_)
  · obtain ⟨v, d, rfl, _⟩ := h
    rfl
  · obtain ⟨v, d, rfl, hd, nd, k⟩ := h
    refine ⟨_, (C8.pss_cut (ps_set (i := 1) sc_law_is_number.nd rfl (.inl rfl) (pe_ifExp (pt_val (pe_callB call_isi (by rfl) T.isinstance (by decide +kernel) (pa_cons (pv 0) (pa_cons (pe_bltn (v := .ty "tuple") (by rfl) T.tuple_ (by decide +kernel) rfl) pa_nil)))) (pv 0) (pe_tup (pa_cons (pv 0) (pa_cons pe_int pa_nil)))))
      (pss_cons (ps_if (PW.pt (pw_or (pt_cmpR op_ne (pe_callB call_len_seq (by rfl) T.len (by decide +kernel) (pa_cons (pv 1) pa_nil)) pe_int (nomark _)) (pw_or1 (pt_val (pe_callB (cr_any rfl) (by rfl) T.any (by decide +kernel) (pa_cons (pe_lc (own := [("_law_x", 2)]) (g := gName 2) (tt := tYes) rfl sc_law_is_number.nd (pi_tup (pv 1)) (blkOk_by (N := ["_law_thing", "_law_both", "_law_x"]) (sc := defScope s_law_is_number) (by decide +kernel)) (fun _ _ _ _ _ => pg_name (i := 2) sc_law_is_number.nd rfl (Or.inl rfl)) (fun _ _ _ _ _ => pts_nil) (fun _ _ _ _ _ => (pe_or (pe_not (pe_callB (call_isiK (K := K)) (by rfl) T.isinstance (by decide +kernel) (pa_cons (pv 2) (pa_cons (pe_bltn (v := .ty "int") (by rfl) T.int_ (by decide +kernel) rfl) pa_nil)))) (pe_one (pe_callB (call_isiK (K := K)) (by rfl) T.isinstance (by decide +kernel) (pa_cons (pv 2) (pa_cons (pe_bltn (v := .ty "bool") (by rfl) T.bool_ (by decide +kernel) rfl) pa_nil))))))) pa_nil)))))) (pss_one (ps_ret pe_bl)) pss_nil)
      (pss_one (ps_ret (pe_or (pe_and (pe_cmpR op_ge (pe_ix ix_tup (pv 1) pe_int (fun _ _ => rfl)) pe_int (nomark _)) (pe_one (pe_cmpR op_gt (pe_ix ix_tup (pv 1) pe_int (fun _ _ => rfl)) pe_int (nomark _)))) (pe_one (pe_cmpR (op_eqD hr.units) (pv 1) (pe_tup (pa_cons pe_int (pa_cons pe_int pa_nil))) (nomark _)))))))), ?_⟩
    refine ⟨fun σ' H' => ∃ t ys, σ' = [some v, some (.ref t), none] ∧ Same H H' ∧ H' t = some (.tup ys) ∧ Drs H' ys (bothOf d), ?_, ?_⟩
    · refine ⟨_, rfl, _, _, _, _, isTupD d, rfl, .ty _, ty_dr hd, kit_tup d, _, rfl, ?_⟩
      cases h1 : isTupD d with
      | true =>
        obtain ⟨ds, rfl⟩ : ∃ ds, d = .tuple ds := by cases d <;> first | exact ⟨_, rfl⟩ | exact absurd h1 (by simp [isTupD])
        obtain ⟨t, ys, rfl, ht, hy⟩ := hd.tuple
        exact iteT ⟨_, rfl, t, ys, rfl, Same.refl _, ht, hy⟩
      | false =>
        rw [bothOf_not h1]
        refine iteF ⟨_, rfl, (by show 2 ≤ sizeLine; decide), fun p np => ?_⟩
        have sp := same_upd (o := .tup [v, .int 1]) np
        exact ⟨p, _, rfl, sp, upd_same, .cons (hd.mono sp) (.cons (.int _) .nil)⟩
    rintro σ1 H1 ⟨t, ys, rfl, s1, ht, hy⟩
    have ndd : ∀ x ∈ bothOf d, Nd x := fun x hx => by
      cases h1 : isTupD d with
      | true =>
        obtain ⟨ds, rfl⟩ : ∃ ds, d = .tuple ds := by cases d <;> first | exact ⟨_, rfl⟩ | exact absurd h1 (by simp [isTupD])
        obtain ⟨i, hi⟩ := List.getElem?_of_mem hx
        exact .inl (nd.at_ hi)
      | false =>
        rw [bothOf_not h1] at hx
        simp only [List.mem_cons, List.not_mem_nil, or_false] at hx
        rcases hx with rfl | rfl
        · exact nd
        · exact .inl rfl
    rw [← num_both] at k
    generalize bothOf d = ds at *
    refine ⟨_, rfl, t, _, rfl, .inr (SqT.of ht), rfl, _, rfl, ite2 (fun e1 => ?_) (fun e1 => ?_)⟩
    · have nl : ds.length ≠ 2 := fun z => by
        rw [hy.1, z] at e1
        exact absurd e1 (by decide)
      rw [(odd_res (.inl nl)).2] at k
      exact k _ s1
    have l2 : ds.length = 2 := by
      have e2 : decide (V.int (ys.length : Int) = V.int 2) = true := by
        cases hh : decide (V.int (ys.length : Int) = V.int 2) with
        | true => rfl
        | false =>
          rw [hh] at e1
          exact absurd rfl e1
      have := V.int.inj (of_decide_eq_true e2)
      have := hy.1
      omega
    refine ⟨_, rfl, t, rfl, ⟨_, SqT.of ht⟩, fun D hD => ?_⟩
    refine lc_tup (K := K) (a := t) (xs := ys) (fun i H' => Same H1 H' ∧ H' D = some (.lst (((ds.take i).map fun d => !isIntD d).map V.bl))) ⟨same_upd hD, upd_same⟩ (fun i H' _ h => SqT.of (h.1 _ _ ht)) ?_ ?_
    · rintro i y H' hyi ⟨sD, hDi⟩
      obtain ⟨x, hx, hdx⟩ := hy.atv hyi
      have il : i < ds.length := (List.getElem?_eq_some_iff.mp hx).1
      have hdx' := hdx.mono sD
      refine ⟨rfl, ?_⟩
      unfold tYes
      refine iteT ?_
      have fin : ∃ acc, H' D = some (.lst acc) ∧ acc.length < sizeLine ∧ Same H1 (upd H' D (.lst (acc ++ [.bl (!isIntD x)]))) ∧ (upd H' D (.lst (acc ++ [.bl (!isIntD x)]))) D = some (.lst (((ds.take (i + 1)).map fun d => !isIntD d).map V.bl)) := by
        refine ⟨_, hDi, ?_, ?_, ?_⟩
        · rw [List.length_map, List.length_map, List.length_take]
          exact small1000 (by omega)
        · intro q o e
          rw [upd_ne (ne_of_none e hD)]
          exact sD _ _ e
        · rw [upd_same, take_snoc hx, List.map_append, List.map_append]
          rfl
      refine ⟨_, rfl, _, _, _, _, intOrBool x, rfl, .ty _, ty_dr hdx', kit_int x, _, rfl, _, rfl, ?_⟩
      cases h1 : intOrBool x with
      | false =>
        have e : isIntD x = false := by cases x <;> first | rfl | (cases h1; done)
        rw [e] at fin
        exact iteT fin
      | true =>
        refine iteF ⟨_, rfl, _, _, _, _, isBoolD x, rfl, .ty _, ty_dr hdx', kit_bool x, ?_⟩
        have e : isBoolD x = !isIntD x := by cases x <;> first | rfl | (cases h1; done)
        rw [e]
        exact fin
    · rintro H' ⟨sD, hDn⟩
      refine ⟨D, _, rfl, SqL.of hDn, _, rfl, ?_⟩
      have el : ((ds.take ys.length).map fun d => !isIntD d).any id = someOdd ds := by
        rw [hy.1, List.take_length, List.any_map]
        rfl
      rw [el]
      have s2 := s1.trans sD
      cases ho : someOdd ds with
      | true =>
        rw [(odd_res (.inr ho)).2] at k
        exact iteT (k _ s2)
      | false =>
        obtain ⟨a, b, rfl⟩ := odd_no l2 ho
        have ht' := sD _ _ ht
        obtain ⟨rfl⟩ : ys = [.int a, .int b] := by
          match ys, hy with
          | [x, y], hy =>
            have h1 := hy.inv.1.toInt
            have h2 := hy.inv.2.inv.1.toInt
            rw [h1, h2]
          | [], hy => exact absurd hy.1 (by simp)
          | [_], hy => exact absurd hy.1 (by simp)
          | _ :: _ :: _ :: _, hy => exact absurd hy.1 (by simp)
        have hdl : Drs H' [.int a, .int b] [.int a, .int b] := .cons (.int _) (.cons (.int _) .nil)
        have last : ∀ c : Bool, (∀ H'', Same H' H'' → Q (.bl (c || decide (a = 1 ∧ b = 0))) H'') → c = false → ∀ p, H' p = none → Q (.bl (PyData.eqv (.tuple [.int a, .int b]) (.tuple [.int 1, .int 0]))) (upd H' p (.tup [.int 1, .int 0])) := fun c q e p np => by
          subst e
          rw [eqv_open]
          exact q _ (same_upd np)
        refine iteF ?_
        have k : ∀ H'', Same H' H'' → Q (.bl ((decide (0 ≤ a) && decide (0 < b)) || decide (a = 1 ∧ b = 0))) H'' := fun H'' s => k H'' (s2.trans s)
        refine ⟨_, rfl, t, _, _, _, rfl, rfl, SqT.of ht', atI_nat (j := 0) rfl, _, _, rfl, rfl, _, rfl, ite2 (fun e0 => ?_) (fun e0 => ?_)⟩
        · refine ⟨_, rfl, t, _, _, _, rfl, rfl, SqT.of ht', atI_nat (j := 1) rfl, _, _, rfl, rfl, ?_⟩
          cases e1 : decide (0 < b) with
          | true =>
            refine ⟨true, congrArg V.bl e1, iteT ?_⟩
            have k := k _ (Same.refl _)
            rw [show (decide (0 ≤ a) && decide (0 < b)) = true by rw [show decide (0 ≤ a) = true from e0, e1]; rfl, Bool.true_or] at k
            exact k
          | false =>
            refine ⟨false, congrArg V.bl e1, iteF ?_⟩
            refine ⟨_, rfl, (by show 2 ≤ sizeLine; decide), fun p np => ?_⟩
            have sp := same_upd (o := .tup [.int 1, .int 0]) np
            refine ⟨.tuple [.int a, .int b], .tuple [.int 1, .int 0], .tup (SqT.of (sp _ _ ht')) (.cons (.int _) (.cons (.int _) .nil)), .tup (SqT.of upd_same) (.cons (.int _) (.cons (.int _) .nil)), rfl, rfl, ?_⟩
            rw [eqv_open]
            have k := k _ sp
            rw [show (decide (0 ≤ a) && decide (0 < b)) = false by rw [e1, Bool.and_false], Bool.false_or] at k
            exact k
        · refine ⟨_, rfl, iteF ⟨_, rfl, (by show 2 ≤ sizeLine; decide), fun p np => ?_⟩⟩
          have sp := same_upd (o := .tup [.int 1, .int 0]) np
          refine ⟨.tuple [.int a, .int b], .tuple [.int 1, .int 0], .tup (SqT.of (sp _ _ ht')) (.cons (.int _) (.cons (.int _) .nil)), .tup (SqT.of upd_same) (.cons (.int _) (.cons (.int _) .nil)), rfl, rfl, ?_⟩
          rw [eqv_open]
          have k := k _ sp
          rw [show (decide (0 ≤ a) && decide (0 < b)) = false by rw [show decide (0 ≤ a) = false from Bool.eq_false_iff.mpr e0, Bool.false_and], Bool.false_or] at k
          exact k
abbrev s_law_is_row : Stmt := top 85
theorem sc_law_is_row : FnScope ["_law_thing", "_law_part"] ["_law_thing"] (defScope s_law_is_row) := ⟨rfl, rfl, rfl, by decide +kernel, rfl, by decide +kernel, by decide +kernel⟩

theorem ok_isrow {f : Addr} {fd : FuncData} (F : Fun K "_law_is_row" "_law_is_row" s_law_is_row f fd) (T : TxtA K mg w tG t1 t3 tC tK aO aW aCh) (D_law_is_whole : Df P w K mg base 1 "_law_is_whole" ["_law_thing", "_law_first", "_law_last"] spWhole) : FnOk P w K mg base CX0 2 f fd ["_law_thing"] spIsRow := by
  refine F.ok sc_law_is_row (fun vs H Q E h => ?_) (fun cdv A outer s H vs Q E hr h => ?_)
  · obtain ⟨v, d, rfl, _⟩ := h
    rfl
  · obtain ⟨v, d, rfl, hd, nd, k⟩ := h
    refine ⟨_, (pss_cons (ps_if (PW.pt (pw_or (pt_not (pt_val (pe_callB call_isi (by rfl) T.isinstance (by decide +kernel) (pa_cons (pv 0) (pa_cons (pe_bltn (v := .ty "tuple") (by rfl) T.tuple_ (by decide +kernel) rfl) pa_nil))))) (pw_or1 (pt_not (pt_chain op_le op_le pe_int (pe_callB call_len_seq (by rfl) T.len (by decide +kernel) (pa_cons (pv 0) pa_nil)) pe_int))))) (pss_one (ps_ret pe_bl)) pss_nil)
      (pss_cons (ps_for PassesOwn.never rfl (pi_tup (pv 0)) (pg_name (i := 1) sc_law_is_row.nd rfl (.inl rfl)) (pss_cons (ps_if (PW.pt (pw_or (pt_not (pt_val (pe_callB call_isi (by rfl) T.isinstance (by decide +kernel) (pa_cons (pv 1) (pa_cons (pe_bltn (v := .ty "tuple") (by rfl) T.tuple_ (by decide +kernel) rfl) pa_nil))))) (pw_or (pt_cmpR op_ne (pe_callB call_len_seq (by rfl) T.len (by decide +kernel) (pa_cons (pv 1) pa_nil)) pe_int (nomark _)) (pw_or1 (pt_not (pt_val (pe_callB call_isi (by rfl) T.isinstance (by decide +kernel) (pa_cons (pe_ix ix_tup (pv 1) pe_int (fun _ _ => rfl)) (pa_cons (pe_bltn (v := .ty "str") (by rfl) T.str_ (by decide +kernel) rfl) pa_nil))))))))) (pss_one (ps_ret pe_bl)) pss_nil)
      (pss_one (ps_if (PW.pt (pw_or (pt_cmpR op_notIn_seq (pe_ix ix_tup (pv 1) pe_int (fun _ _ => rfl)) (pe_lst (pa_cons pe_str (pa_cons pe_str pa_nil))) (by rfl)) (pw_or1 (pt_not (pt_val (pe_df D_law_is_whole (hr.mono (by decide)) (by rfl) (pa_cons (pe_ix ix_tup (pv 1) pe_int (fun _ _ => rfl)) (pa_cons pe_int (pa_cons pe_int pa_nil))))))))) (pss_one (ps_ret pe_bl)) pss_nil))))
      (pss_one (ps_ret pe_bl)))), ?_⟩
    refine ⟨_, rfl, _, _, _, _, isTupD d, rfl, .ty _, ty_dr hd, kit_tup d, _, rfl, ?_⟩
    cases h1 : isTupD d with
    | false =>
      have e : rowG d = false := by cases d <;> first | rfl | (cases h1; done)
      rw [e] at k
      exact iteT (k _ (Same.refl _))
    | true =>
    obtain ⟨ds, rfl⟩ : ∃ ds, d = .tuple ds := by cases d <;> first | exact ⟨_, rfl⟩ | (cases h1; done)
    obtain ⟨t, ys, rfl, ht, hy⟩ := hd.tuple
    have el := hy.1
    have q : rowG (.tuple ds) = (decide (1 ≤ ds.length) && (decide (ds.length ≤ 8) && ds.all pieceG)) := rfl
    rw [q] at k
    refine iteF ⟨_, rfl, t, _, rfl, .inr (SqT.of ht), _, _, rfl, rfl, _, rfl, ite2 (fun e1 => ?_) (fun e1 => ?_)⟩
    rotate_left
    · have l1 : ¬ (1 ≤ (ys.length : Int)) := fun z => e1 (decide_eq_true z)
      rw [decide_eq_false (show ¬ 1 ≤ ds.length by omega)] at k
      exact ⟨_, rfl, iteT (k _ (Same.refl _))⟩
    have l1 : 1 ≤ (ys.length : Int) := of_decide_eq_true e1
    rw [decide_eq_true (show 1 ≤ ds.length by omega), Bool.true_and] at k
    refine ⟨_, _, rfl, rfl, ?_⟩
    cases e8 : decide ((ys.length : Int) ≤ 8) with
    | false =>
      have l8 : ¬ ((ys.length : Int) ≤ 8) := of_decide_eq_false e8
      rw [decide_eq_false (show ¬ ds.length ≤ 8 by omega)] at k
      exact ⟨false, congrArg V.bl e8, iteT (k _ (Same.refl _))⟩
    | true =>
    have l8 : (ys.length : Int) ≤ 8 := of_decide_eq_true e8
    rw [decide_eq_true (show ds.length ≤ 8 by omega), Bool.true_and] at k
    refine ⟨true, congrArg V.bl e8, iteF ?_⟩
    refine ⟨_, rfl, t, rfl, ⟨_, SqT.of ht⟩, ?_⟩
    refine for_tup (K := K) (a := t) (xs := ys) (fun i σ H' => Same H H' ∧ (∃ v1, σ = [some (.ref t), v1]) ∧ ∀ d ∈ ds.take i, pieceG d = true) ⟨Same.refl _, ⟨none, rfl⟩, by simp⟩ (fun i σ H' _ h => SqT.of (h.1 _ _ ht)) ?_ ?_
    · rintro i y σ H' hyi ⟨sm, ⟨v1, rfl⟩, hall⟩
      obtain ⟨x, hx, hdx⟩ := hy.atv hyi
      have hdx := hdx.mono sm
      have nx := nd.at_ hx
      have bad : pieceG x = false → ∀ H'', Same H' H'' → Q (.bl false) H'' := fun e H'' s'' => by
        have : ds.all pieceG = false := by
          rw [List.all_eq_false]
          exact ⟨x, List.mem_of_getElem? hx, by rw [e]; decide⟩
        rw [this] at k
        exact k _ (sm.trans s'')
      refine ⟨_, rfl, _, _, _, _, isTupD x, rfl, .ty _, ty_dr hdx, kit_tup x, _, rfl, ?_⟩
      cases h1 : isTupD x with
      | false =>
        have e : pieceG x = false := by cases x <;> first | rfl | (cases h1; done)
        exact iteT (bad e _ (Same.refl _))
      | true =>
      obtain ⟨es, rfl⟩ : ∃ ds, x = .tuple ds := by cases x <;> first | exact ⟨_, rfl⟩ | (cases h1; done)
      obtain ⟨u, us, rfl, hu, hus⟩ := hdx.tuple
      refine iteF ⟨_, rfl, u, _, rfl, .inr (SqT.of hu), rfl, _, rfl, ite2 (fun e1 => ?_) (fun e1 => ?_)⟩
      · have nl : es.length ≠ 2 := fun z => by
          rw [hus.1, z] at e1
          exact absurd e1 (by decide)
        have e : pieceG (.tuple es) = false := by
          match es, nl with
          | [], _ => rfl
          | [_], _ => rfl
          | [_, _], n => exact absurd rfl n
          | _ :: _ :: _ :: _, _ => rfl
        exact bad e _ (Same.refl _)
      have l2 : es.length = 2 := by
        have e2 : decide (V.int (us.length : Int) = V.int 2) = true := by
          cases hh : decide (V.int (us.length : Int) = V.int 2) with
          | true => rfl
          | false =>
            rw [hh] at e1
            exact absurd rfl e1
        have := V.int.inj (of_decide_eq_true e2)
        have := hus.1
        omega
      obtain ⟨a, b, rfl⟩ : ∃ a b, es = [a, b] := by
        match es, l2 with
        | [a, b], _ => exact ⟨a, b, rfl⟩
      obtain ⟨va, vb, rfl⟩ : ∃ a b, us = [a, b] := by
        match us, hus.1 with
        | [a, b], _ => exact ⟨a, b, rfl⟩
      obtain ⟨ha, hb⟩ := hus.inv
      have hb := hb.inv.1
      refine ⟨_, rfl, u, _, _, _, rfl, rfl, SqT.of hu, atI_nat (j := 0) rfl, _, _, _, _, isStrD a, rfl, .ty _, ty_dr ha, kit_str a, _, rfl, ?_⟩
      cases h2 : isStrD a with
      | false =>
        have e : pieceG (.tuple [a, b]) = false := by cases a <;> first | rfl | (cases h2; done)
        exact iteT (bad e _ (Same.refl _))
      | true =>
      obtain ⟨s, rfl⟩ : ∃ s, a = .str s := by cases a <;> first | exact ⟨_, rfl⟩ | (cases h2; done)
      cases ha.toStr
      refine iteF ⟨_, rfl, u, _, _, _, rfl, rfl, SqT.of hu, atI_nat (j := 0) rfl, (by show 2 ≤ sizeLine; decide), fun l nl => ?_⟩
      have sl := same_upd (o := .lst [.str (Str.ofString "rail"), .str (Str.ofString "rung")]) nl
      have q2 : pieceG (.tuple [.str s, b]) = (wordB s && withinD b 1 12) := rfl
      refine ⟨l, _, rfl, .inl (SqL.of upd_same), rfl, rfl, _, rfl, ?_⟩
      rw [in_words]
      cases h3 : wordB s with
      | false =>
        exact iteT (bad (by rw [q2, h3]; rfl) _ sl)
      | true =>
      refine iteF ⟨_, rfl, u, _, _, _, rfl, rfl, SqT.of (sl _ _ hu), atI_nat (j := 1) rfl, vb, b, 1, 12, rfl, hb.mono sl, _, rfl, ?_⟩
      cases h4 : withinD b 1 12 with
      | false => exact iteT (bad (by rw [q2, h3, h4]; rfl) _ sl)
      | true =>
        refine iteF ⟨sm.trans sl, ⟨_, rfl⟩, fun d hd => ?_⟩
        rw [take_snoc hx] at hd
        rcases List.mem_append.mp hd with hd | hd
        · exact hall d hd
        · rw [List.mem_singleton.mp hd, q2, h3, h4]
          rfl
    · rintro σ H' ⟨sm, ⟨v1, rfl⟩, hall⟩
      have : ds.all pieceG = true := by
        rw [List.all_eq_true]
        intro d hd
        refine hall d ?_
        rw [el, List.take_length]
        exact hd
      rw [this] at k
      exact k _ sm
end
end RL

set_option maxHeartbeats 4000000
namespace RL
open PySem L2 PySem.Spec PyProof.Rows
/-! ### what claims are made of -/
def lenB : PyData → Bool
  | .tuple ds => decide (ds.length ≤ 100)
  | _ => true
def PlOk (d : PyData) : Prop := Nd d ∧ SmD 3900 d ∧ lenB d = true
def HeadOk (d : PyData) : Prop := (d.hasDict = false ∧ SeqAt.shaped d = true) ∨ d = .dict []
def isNilD : PyData → Bool
  | .dict [] => true
  | _ => false
theorem nil_of {d : PyData} (h : isNilD d = true) : d = .dict [] := by
  cases d with
  | dict kvs =>
    cases kvs with
    | nil => rfl
    | cons a b => cases h
  | _ => cases h
def pcD (p : Pc) : PyData := .tuple [.str (wd p.1), .int p.2]
theorem pcD_ok {p : Pc} (h : PcOk p) : pieceG (pcD p) = true := by
  show (wordB (wd p.1) && (decide (1 ≤ p.2) && decide (p.2 ≤ 12))) = true
  rw [decide_eq_true h.1, decide_eq_true h.2]
  cases p.1 <;> decide +kernel
theorem rowD_ok {r : List Pc} (h : RowOk r) (l1 : 1 ≤ r.length) (l8 : r.length ≤ 8) : rowG (.tuple (r.map pcD)) = true := by
  show (decide (1 ≤ (r.map pcD).length) && (decide ((r.map pcD).length ≤ 8) && (r.map pcD).all pieceG)) = true
  rw [List.length_map, decide_eq_true l1, decide_eq_true l8, List.all_map]
  simp only [Bool.true_and, List.all_eq_true]
  exact fun p hp => pcD_ok (h p hp)
theorem hda_of {ds : List PyData} (h : ∀ d ∈ ds, d.hasDict = false) : PyData.hasDictAll ds = false := by
  induction ds with
  | nil => rfl
  | cons d ds ih =>
    simp only [PyData.hasDictAll, Bool.or_eq_false_iff]
    exact ⟨h d List.mem_cons_self, ih fun x hx => h x (List.mem_cons_of_mem _ hx)⟩
theorem row_nd {d : PyData} (h : rowG d = true) : Nd d := by
  obtain ⟨ds, rfl⟩ := row_tup h
  obtain ⟨_, _, hp⟩ := row_parts h
  refine .inl (hda_of fun x hx => ?_)
  obtain ⟨s, n, rfl, _⟩ := piece_of (hp x hx)
  rfl
theorem num_nd {d : PyData} (h : numG d = true) : Nd d := by
  rcases num_of h with ⟨i, rfl, _⟩ | ⟨a, b, rfl, _⟩
  · exact .inl rfl
  · exact .inl rfl
theorem row_sm {d : PyData} (h : rowG d = true) : SmD 3900 d := by
  obtain ⟨ds, rfl⟩ := row_tup h
  obtain ⟨_, _, hp⟩ := row_parts h
  have z : prOf (.tuple ds) = (0, 1) := by
    match ds, hp with
    | [], _ => rfl
    | [_], _ => rfl
    | [a, b], hp =>
      obtain ⟨s, n, rfl, _⟩ := piece_of (hp a List.mem_cons_self)
      rfl
    | _ :: _ :: _ :: _, _ => rfl
  unfold SmD
  rw [z]
  exact ⟨by unfold Sm; decide +kernel, by unfold Sm; decide +kernel⟩
theorem row_pl {d : PyData} (h : rowG d = true) : PlOk d := by
  refine ⟨row_nd h, row_sm h, ?_⟩
  obtain ⟨ds, rfl⟩ := row_tup h
  obtain ⟨_, l8, _⟩ := row_parts h
  exact decide_eq_true (by omega)
theorem num_len {d : PyData} (h : numG d = true) : lenB d = true := by
  rcases num_of h with ⟨i, rfl, _⟩ | ⟨a, b, rfl, _⟩ <;> rfl
theorem res_pl {d : PyData} (h : resG d = true) : PlOk d := by
  obtain ⟨h1, h2, h3⟩ := res_num h
  exact ⟨num_nd h1, ⟨h2.mono (by decide), h3.mono (by decide)⟩, num_len h1⟩
theorem dh_of_piece {c : Addr} {n : Nat} {H : Hp} {v : V} {p : Pc} (t : TapeAt c n H) (h : PieceAt H v p) : Dh c H v (pcD p) := by
  obtain ⟨a, rfl, ha⟩ := h
  exact Dr.ts (hid_of ha (t.nt ha)) (.cons (.str _) (.cons (.int _) .nil))
theorem dhs_of_pieces {c : Addr} {n : Nat} {H : Hp} {vs : List V} {r : List Pc} (t : TapeAt c n H) (h : PiecesAt H vs r) : Dhs c H vs (r.map pcD) := by
  refine ⟨by rw [List.length_map, h.1], fun i v d hv hd => ?_⟩
  obtain ⟨p, hp, q⟩ := h.at_ hv
  rw [List.getElem?_map, hp] at hd
  cases hd
  exact dh_of_piece t q
def spAnyRow : Sp := fun vs H Q _ => ∃ (c : Addr) (n : Nat) (L : Int), vs = [.ref c, .int L] ∧ TapeAt c n H ∧ n + 17 ≤ 1000000 ∧ 1 ≤ L ∧ L ≤ 8 ∧ ∀ H' v d, But c H H' → TapeAt c (n + 17) H' → Dh c H' v d → rowG d = true → Q v H'
def spAnyLoad : Sp := fun vs H Q _ => ∃ (c : Addr) (n : Nat), vs = [.ref c] ∧ TapeAt c n H ∧ n + 4 ≤ 1000000 ∧ ∀ H' v d, But c H H' → TapeAt c (n + 4) H' → Dh c H' v d → resG d = true → Q v H'
theorem sm_p {n : Nat} {x : Int} (h : x.natAbs ≤ 10 ^ 13) (l : 44 ≤ n) : Sm n x := by
  refine Sm.mono (m := 44) ?_ l
  have : (2 : Nat) ^ 44 = 17592186044416 := by decide
  unfold Sm
  omega
section
variable {P : Program} {w : World} {K : PySem.W.Frag} {mg : Str → Option Value} {base : Heap} {tG t1 t3 tC tK : Tok} {aO aW aCh : Addr}
abbrev s_law_anyrow : Stmt := top 78
theorem sc_law_anyrow : FnScope ["_law_tape", "_law_longest", "_law_many", "_law_turn"] ["_law_tape", "_law_longest"] (defScope s_law_anyrow) := ⟨rfl, rfl, rfl, by decide +kernel, rfl, by decide +kernel, by decide +kernel⟩

theorem ok_anyrow {f : Addr} {fd : FuncData} (F : Fun K "_law_anyrow" "_law_anyrow" s_law_anyrow f fd) (T : Txt K mg) (D_law_pick : Df P w K mg base 1 "_law_pick" ["_law_tape", "_law_many"] spDraw) : FnOk P w K mg base CX0 2 f fd ["_law_tape", "_law_longest"] spAnyRow := by
  refine F.ok sc_law_anyrow (fun vs H Q E h => ?_) (fun cdv A outer s H vs Q E hr h => ?_)
  · obtain ⟨c, n, L, rfl, _⟩ := h
    rfl
  · obtain ⟨c, n, L, rfl, ht, hn, L1, L8, k⟩ := h
    refine ⟨_, (pss_cons (ps_set (i := 2) sc_law_anyrow.nd rfl (.inl rfl) (pe_op op_add pe_int (pe_df D_law_pick (hr.mono (by decide)) (by rfl) (pa_cons (pv 0) (pa_cons (pv 1) pa_nil)))))
      (pss_one (ps_ret (pe_callTy call_tuple_of (by rfl) T.tuple_ (by decide +kernel) (pa_cons (pe_lc (own := [("_law_turn", 3)]) (g := gName 3) (tt := tYes) rfl sc_law_anyrow.nd (pi_range1 rfl T.range (pa_cons (pv 2) pa_nil)) (blkOk_by (N := ["_law_tape", "_law_longest", "_law_many", "_law_turn"]) (sc := defScope s_law_anyrow) (by decide +kernel)) (fun _ _ _ _ _ => pg_name (i := 3) sc_law_anyrow.nd rfl (Or.inl rfl)) (fun _ _ _ _ _ => pts_nil) (fun _ _ _ _ _ => (pe_tup (pa_cons (pe_ix (ix_listK (K := K)) (pe_lst (pa_cons pe_str (pa_cons pe_str pa_nil))) (pe_df D_law_pick (hr.mono (by decide)) (by rfl) (pa_cons (pv 0) (pa_cons pe_int pa_nil))) (fun _ _ => rfl)) (pa_cons (pe_op op_add pe_int (pe_df D_law_pick (hr.mono (by decide)) (by rfl) (pa_cons (pv 0) (pa_cons pe_int pa_nil)))) pa_nil))))) pa_nil))))), ?_⟩
    refine ⟨_, rfl, _, rfl, c, n, L, rfl, ht, by omega, by omega, sm_p (by omega) (by decide), fun H1 r b1 t1 r0 r1 => ?_⟩
    refine ⟨_, _, rfl, rfl, ?_⟩
    have hm : 1 + r ≤ 8 := by omega
    refine ⟨_, rfl, _, rfl, by omega, by omega, fun D hD => ?_⟩
    have nDc : D ≠ c := (t1.ne hD).symm
    refine lc_range (lo := 0) (n := (1 + r).toNat) (fun i H' => But c H1 H' ∧ TapeAt c (n + 1 + 2 * i) H' ∧ ∃ vs ps, H' D = some (.lst vs) ∧ PiecesAt H' vs ps ∧ RowOk ps ∧ ps.length = i) ⟨.of (same_upd hD), t1.same (same_upd hD), [], [], upd_same, ⟨rfl, fun i p h => by simp at h⟩, (fun p hp => by cases hp), rfl⟩ ?_ ?_
    · rintro i H' hi ⟨bD, tD, vs, ps, hDv, hps, hok, rfl⟩
      refine ⟨rfl, ?_⟩
      unfold tYes
      refine iteT ?_
      refine ⟨(by show 2 ≤ sizeLine; decide), fun l nl => ?_⟩
      have sl := same_upd (o := .lst [.str (Str.ofString "rail"), .str (Str.ofString "rung")]) nl
      refine ⟨_, rfl, c, _, 2, rfl, tD.same sl, by omega, by decide, sm_p (by decide) (by decide), fun H2 x b2 t2 x0 x1 => ?_⟩
      have nlc : l ≠ c := (tD.ne nl).symm
      have hl2 := b2 _ _ nlc upd_same
      obtain ⟨wv, hwv⟩ : ∃ b : Bool, ([.str (Str.ofString "rail"), .str (Str.ofString "rung")] : List V)[x.toNat]? = some (.str (wd b)) := by
        have : x = 0 ∨ x = 1 := by omega
        rcases this with rfl | rfl
        · exact ⟨true, rfl⟩
        · exact ⟨false, rfl⟩
      have ex : x = (x.toNat : Int) := (Int.toNat_of_nonneg x0).symm
      rw [ex]
      refine ⟨l, _, _, _, rfl, rfl, SqL.of hl2, atI_nat (j := x.toNat) hwv, ?_⟩
      refine ⟨_, rfl, c, _, 12, rfl, t2, by omega, by decide, sm_p (by decide) (by decide), fun H3 y b3 t3 y0 y1 => ?_⟩
      refine ⟨_, _, rfl, rfl, (by show 2 ≤ sizeLine; decide), fun p np => ?_⟩
      have sp := same_upd (o := .tup [.str (wd wv), .int (1 + y)]) np
      have bA : But c H' (upd H3 p (.tup [.str (wd wv), .int (1 + y)])) := ((But.of sl).trans (b2.trans b3)).trans (.of sp)
      have hD3 := bA _ _ nDc hDv
      have pz : PcOk (wv, 1 + y) := ⟨by dsimp; omega, by dsimp; omega⟩
      refine ⟨vs, hD3, ?_, ?_, ?_, vs ++ [.ref p], ps ++ [(wv, 1 + y)], upd_same, ?_, hok.app (fun q hq => by rw [List.mem_singleton.mp hq]; exact pz), by simp⟩
      · rw [hps.1]
        exact small1000 (by omega)
      · intro b o nb e
        rw [upd_ne (ne_of_none e hD)]
        exact bA _ _ nb (bD _ _ nb e)
      · have t4 := t3.same sp
        obtain ⟨u1, u2, u3, hc, rest⟩ := t4
        refine TapeAt.le (n := n + 1 + 2 * ps.length + 1 + 1) ⟨u1, u2, u3, ?_, rest⟩ (by omega)
        rw [upd_ne nDc.symm]
        exact hc
      · have h1 := (hps.but bA tD.notup)
        have nD : ∀ xs, (upd H3 p (.tup [.str (wd wv), .int (1 + y)])) D ≠ some (.tup xs) := fun xs z => by rw [hD3] at z; cases z
        have h2 := h1.but (x := D) (H' := upd (upd H3 p (.tup [.str (wd wv), .int (1 + y)])) D (.lst (vs ++ [.ref p]))) But.upd nD
        have hD30 := ((But.of sl).trans (b2.trans b3)) _ _ nDc hDv
        have npD : p ≠ D := (ne_of_none hD30 np).symm
        have one : PieceAt (upd (upd H3 p (.tup [.str (wd wv), .int (1 + y)])) D (.lst (vs ++ [.ref p]))) (.ref p) (wv, 1 + y) := ⟨p, rfl, by rw [upd_ne npD]; exact upd_same⟩
        refine ⟨by rw [List.length_append, List.length_append, h2.1]; rfl, fun j q hq => ?_⟩
        by_cases hj : j < ps.length
        · rw [List.getElem?_append_left hj] at hq
          obtain ⟨v, hv, hv'⟩ := h2.2 j q hq
          exact ⟨v, by rw [List.getElem?_append_left (by rw [h2.1]; exact hj)]; exact hv, hv'⟩
        · rw [List.getElem?_append_right (by omega)] at hq
          have hj0 : j - ps.length = 0 := by
            have := (List.getElem?_eq_some_iff.mp hq).1
            simp at this
            omega
          rw [hj0] at hq
          cases hq
          exact ⟨_, by rw [List.getElem?_append_right (by rw [h2.1]; omega), h2.1, hj0]; rfl, one⟩
    · rintro H' ⟨bD, tD, vs, ps, hDv, hps, hok, hlen⟩
      refine ⟨D, _, rfl, .inl ⟨SqL.of hDv, fun q nq => ?_⟩⟩
      have sq := same_upd (o := .tup vs) nq
      have tq := tD.same sq
      exact k _ (.ref q) (.tuple (ps.map pcD)) ((b1.trans bD).trans (.of sq)) (tq.le (by omega)) (Dh.new tD nq (dhs_of_pieces tD hps)) (rowD_ok hok (by omega) (by omega))
end
end RL

set_option maxHeartbeats 4000000
namespace RL
open PySem L2 PySem.Spec PyProof.Rows
theorem lit_ix {c : Addr} {n : Nat} {H H1 : Hp} {v : V} {ds : List PyData} (t : TapeAt c n H) (h : Dn H H1 v (.list ds)) : ∃ a vs, v = .ref a ∧ a ≠ c ∧ H1 a = some (.lst vs) ∧ Dhs c H1 vs ds := by
  obtain ⟨a, vs, rfl, ha, hv⟩ := Dr.list h
  obtain ⟨n0, ha'⟩ := fresh_get ha
  obtain ⟨_, _, _, e, _⟩ := t
  refine ⟨a, vs, rfl, ?_, ha', Drs.mono hv (fresh_hid e)⟩
  rintro rfl
  rw [e] at n0
  cases n0
theorem all_at {p : PyData → Bool} {ds : List PyData} {i : Nat} {d : PyData} (h : ds.all p = true) (e : ds[i]? = some d) : p d = true := by
  rw [List.all_eq_true] at h
  exact h d (List.mem_of_getElem? e)
section
variable {P : Program} {w : World} {K : PySem.W.Frag} {mg : Str → Option Value} {base : Heap} {tG t1 t3 tC tK : Tok} {aO aW aCh : Addr}
abbrev s_law_anyload : Stmt := top 82
theorem sc_law_anyload : FnScope ["_law_tape", "_law_way", "_law_by"] ["_law_tape"] (defScope s_law_anyload) := ⟨rfl, rfl, rfl, by decide +kernel, rfl, by decide +kernel, by decide +kernel⟩

theorem ok_anyload {f : Addr} {fd : FuncData} (F : Fun K "_law_anyload" "_law_anyload" s_law_anyload f fd) (D_law_pick : Df P w K mg base 1 "_law_pick" ["_law_tape", "_law_many"] spDraw) : FnOk P w K mg base CX0 2 f fd ["_law_tape"] spAnyLoad := by
  refine F.ok sc_law_anyload (fun vs H Q E h => ?_) (fun cdv A outer s H vs Q E hr h => ?_)
  · obtain ⟨c, n, rfl, _⟩ := h
    rfl
  · obtain ⟨c, n, rfl, ht, hn, k⟩ := h
    refine ⟨_, (pss_cons (ps_set (i := 1) sc_law_anyload.nd rfl (.inl rfl) (pe_df D_law_pick (hr.mono (by decide)) (by rfl) (pa_cons (pv 0) (pa_cons pe_int pa_nil))))
      (pss_cons (ps_if (pt_cmpR op_lt (pv 1) pe_int (nomark _)) (pss_one (ps_ret (pe_ix ix_list (pd_lst (pds_cons pd_int (pds_cons (pd_tup (pds_cons pd_int (pds_cons pd_int pds_nil))) pds_nil))) (pv 1) (fun _ _ => rfl)))) pss_nil)
      (pss_cons (ps_if (pt_cmpR op_eq (pv 1) pe_int (nomark _)) (pss_one (ps_ret (pe_ix ix_list (pd_lst (pds_cons (pd_tup (pds_cons pd_int (pds_cons pd_int pds_nil))) (pds_cons (pd_pow pd_int pd_int) (pds_cons (pd_tup (pds_cons pd_int (pds_cons (pd_pow pd_int pd_int) pds_nil))) (pds_cons (pd_tup (pds_cons (pd_pow pd_int pd_int) (pds_cons (pd_sub (pd_pow pd_int pd_int) pd_int) pds_nil))) pds_nil))))) (pe_df D_law_pick (hr.mono (by decide)) (by rfl) (pa_cons (pv 0) (pa_cons pe_int pa_nil))) (fun _ _ => rfl)))) pss_nil)
      (pss_cons (ps_if (pt_cmpR op_lt (pv 1) pe_int (nomark _)) (pss_one (ps_ret (pe_df D_law_pick (hr.mono (by decide)) (by rfl) (pa_cons (pv 0) (pa_cons pe_int pa_nil))))) pss_nil)
      (pss_cons (ps_if (pt_cmpR op_eq (pv 1) pe_int (nomark _)) (pss_one (ps_ret (pe_tup (pa_cons (pe_df D_law_pick (hr.mono (by decide)) (by rfl) (pa_cons (pv 0) (pa_cons (pe_op op_add (pe_op op_pow pe_int pe_int) pe_int) pa_nil))) (pa_cons (pe_op op_add pe_int (pe_df D_law_pick (hr.mono (by decide)) (by rfl) (pa_cons (pv 0) (pa_cons (pe_op op_pow pe_int pe_int) pa_nil)))) pa_nil))))) pss_nil)
      (pss_cons (ps_set (i := 2) sc_law_anyload.nd rfl (.inl rfl) (pe_op op_add pe_int (pe_df D_law_pick (hr.mono (by decide)) (by rfl) (pa_cons (pv 0) (pa_cons pe_int pa_nil)))))
      (pss_one (ps_ret (pe_tup (pa_cons (pe_op op_mulX (pv 2) (pe_df D_law_pick (hr.mono (by decide)) (by rfl) (pa_cons (pv 0) (pa_cons pe_int pa_nil)))) (pa_cons (pe_op op_mulX (pv 2) (pe_op op_add pe_int (pe_df D_law_pick (hr.mono (by decide)) (by rfl) (pa_cons (pv 0) (pa_cons pe_int pa_nil))))) pa_nil))))))))))), ?_⟩
    refine ⟨_, rfl, c, n, 9, rfl, ht, by omega, by decide, sm_p (by decide) (by decide), fun H1 r b1 t1 r0 r1 => ?_⟩
    refine ⟨_, rfl, _, _, rfl, rfl, _, rfl, ite2 (fun e => ?_) (fun e => ?_)⟩
    · have e := of_decide_eq_true e
      intro H2 v s2 hv
      obtain ⟨a, vs, rfl, nac, ha, hvs⟩ := lit_ix t1 hv
      obtain ⟨i, hi, rfl⟩ : ∃ i : Nat, i < 2 ∧ r = (i : Int) := ⟨r.toNat, by omega, (Int.toNat_of_nonneg r0).symm⟩
      obtain ⟨d, hd⟩ : ∃ d, ([PyData.int 0, PyData.tuple [PyData.int 1, PyData.int 0]] : List PyData)[i]? = some d := ⟨_, List.getElem?_eq_getElem hi⟩
      obtain ⟨x, hx, hdx⟩ := Drs.at_ hvs hd
      refine ⟨_, rfl, a, vs, _, _, rfl, rfl, SqL.of ha, atI_nat hx, ?_⟩
      exact k _ x d (b1.trans (.of s2)) ((t1.same s2).le (by omega)) hdx (all_at (p := resG) (by decide +kernel) hd)
    have e1 : ¬ r < 2 := fun z => e (decide_eq_true z)
    refine ⟨_, rfl, rfl, _, rfl, ite2 (fun e => ?_) (fun e => ?_)⟩
    · intro H2 v s2 hv
      obtain ⟨a, vs, rfl, nac, ha, hvs⟩ := lit_ix t1 hv
      refine ⟨_, rfl, c, _, 4, rfl, t1.same s2, by omega, by decide, sm_p (by decide) (by decide), fun H3 j b3 t3 j0 j1 => ?_⟩
      obtain ⟨i, hi, rfl⟩ : ∃ i : Nat, i < 4 ∧ j = (i : Int) := ⟨j.toNat, by omega, (Int.toNat_of_nonneg j0).symm⟩
      obtain ⟨d, hd⟩ : ∃ d, ([PyData.tuple [PyData.int 0, PyData.int 7], PyData.int (10 ^ Int.toNat 12), PyData.tuple [PyData.int 1, PyData.int (10 ^ Int.toNat 12)], PyData.tuple [PyData.int (10 ^ Int.toNat 12), PyData.int (10 ^ Int.toNat 12 - 1)]] : List PyData)[i]? = some d := ⟨_, List.getElem?_eq_getElem hi⟩
      obtain ⟨x, hx, hdx⟩ := Drs.at_ hvs hd
      refine ⟨a, vs, _, _, rfl, rfl, SqL.of (b3 _ _ nac ha), atI_nat hx, ?_⟩
      exact k _ x d ((b1.trans (.of s2)).trans b3) (t3.le (by omega)) (Dh.but hdx b3) (all_at (p := resG) (by decide +kernel) hd)
    refine ⟨_, rfl, _, _, rfl, rfl, _, rfl, ite2 (fun e => ?_) (fun e => ?_)⟩
    · refine ⟨_, rfl, c, _, 30, rfl, t1, by omega, by decide, sm_p (by decide) (by decide), fun H3 j b3 t3 j0 j1 => ?_⟩
      refine k _ _ (.int j) (b1.trans b3) (t3.le (by omega)) (.int _) ?_
      show (decide (0 ≤ j) && decide (j ≤ 1000000000000)) = true
      simp only [Bool.and_eq_true, decide_eq_true_eq]
      omega
    have mk : ∀ {H2 : Hp} {p : Addr} {x y : Int}, But c H H2 → TapeAt c (n + 4) H2 → H2 p = none → 0 ≤ x → x ≤ 1000000000000 → 1 ≤ y → y ≤ 1000000000000 → Q (.ref p) (upd H2 p (.tup [.int x, .int y])) := fun {H2 p x y} b t np x0 x1 y0 y1 => by
      refine k _ _ (.tuple [.int x, .int y]) (b.trans (.of (same_upd np))) (t.same (same_upd np)) (Dh.new t np (.cons (.int _) (.cons (.int _) .nil))) ?_
      show (decide (x = 1 ∧ y = 0) || (decide (0 ≤ x) && decide (x ≤ 1000000000000) && (decide (1 ≤ y) && decide (y ≤ 1000000000000)))) = true
      simp only [Bool.or_eq_true, Bool.and_eq_true, decide_eq_true_eq]
      omega
    refine ⟨_, rfl, rfl, _, rfl, ite2 (fun e => ?_) (fun e => ?_)⟩
    · refine ⟨_, rfl, _, _, rfl, rfl, ⟨by decide, by decide, by decide⟩, _, _, rfl, rfl, c, _, _, rfl, t1, by omega, by decide, sm_p (by decide) (by decide), fun H3 x b3 t3 x0 x1 => ?_⟩
      refine ⟨_, rfl, _, _, rfl, rfl, ⟨by decide, by decide, by decide⟩, c, _, _, rfl, t3, by omega, by decide, sm_p (by decide) (by decide), fun H4 y b4 t4 y0 y1 => ?_⟩
      have p12 : (10 : Int) ^ Int.toNat 12 = 1000000000000 := by decide
      rw [p12] at x1 y1
      refine ⟨_, _, rfl, rfl, (by show 2 ≤ sizeLine; decide), fun p np => ?_⟩
      exact mk ((b1.trans b3).trans b4) (t4.le (by omega)) np (by omega) (by omega) (by omega) (by omega)
    · refine ⟨_, rfl, c, _, 3, rfl, t1, by omega, by decide, sm_p (by decide) (by decide), fun H3 x b3 t3 x0 x1 => ?_⟩
      refine ⟨_, _, rfl, rfl, ?_⟩
      have sb : Sm 50 (1 + x) := sm_p (by omega) (by decide)
      refine ⟨_, rfl, _, rfl, c, _, 60, rfl, t3, by omega, by decide, sm_p (by decide) (by decide), fun H4 y b4 t4 y0 y1 => ?_⟩
      refine ⟨_, _, rfl, rfl, mx sb (sm_p (n := 50) (x := y) (by omega) (by decide)), _, rfl, _, rfl, c, _, 24, rfl, t4, by omega, by decide, sm_p (by decide) (by decide), fun H5 z b5 t5 z0 z1 => ?_⟩
      refine ⟨_, _, rfl, rfl, _, _, rfl, rfl, mx sb (sm_p (n := 50) (x := 1 + z) (by omega) (by decide)), (by show 2 ≤ sizeLine; decide), fun p np => ?_⟩
      have q1 : (1 + x) * y ≤ 3 * 60 := Int.le_trans (Int.mul_le_mul_of_nonneg_right (show 1 + x ≤ 3 by omega) y0) (Int.mul_le_mul_of_nonneg_left (show y ≤ 60 by omega) (by decide))
      have q2 : (1 + x) * (1 + z) ≤ 3 * 24 := Int.le_trans (Int.mul_le_mul_of_nonneg_right (show 1 + x ≤ 3 by omega) (by omega)) (Int.mul_le_mul_of_nonneg_left (show 1 + z ≤ 24 by omega) (by decide))
      have q3 : 0 ≤ (1 + x) * y := Int.mul_nonneg (by omega) y0
      have q4 : 1 * 1 ≤ (1 + x) * (1 + z) := Int.mul_le_mul (by omega) (by omega) (by decide) (by omega)
      exact mk (((b1.trans b3).trans b4).trans b5) (t5.le (by omega)) np q3 (by omega) (by omega) (by omega)
end
end RL

namespace RL
/-! ### joined patterns: products of their matrices -/
def Mx.mul (m n : Mx) : Mx := ⟨m.a * n.a + m.b * n.c, m.a * n.b + m.b * n.d, m.c * n.a + m.d * n.c, m.c * n.b + m.d * n.d⟩
theorem app_mul (m n : Mx) (e : Int × Int) : (m.mul n).app e = m.app (n.app e) := by
  unfold Mx.mul Mx.app
  ext <;> dsimp <;> grind
theorem mx_ext {m n : Mx} (h : ∀ e, m.app e = n.app e) : m = n := by
  have h1 := h (1, 0)
  have h2 := h (0, 1)
  unfold Mx.app at h1 h2
  simp at h1 h2
  obtain ⟨a, b, c, d⟩ := m
  obtain ⟨a', b', c', d'⟩ := n
  dsimp at h1 h2
  rw [h1.1, h1.2, h2.1, h2.2]
theorem mat_mul (r r' : List Pc) : matR (r ++ r') = (matR r).mul (matR r') := mx_ext fun e => by
  rw [app_mul, mat_app, mat_app, mat_app, act_app]
theorem mat_app2 (r r' : List Pc) (e : Int × Int) : (matR (r ++ r')).app e = (matR r).app ((matR r').app e) := by
  rw [mat_mul, app_mul]
theorem appN_succ (m : Mx) (n : Nat) (e : Int × Int) : appN m (n + 1) e = m.app (appN m n e) := rfl
theorem appN_add (m : Mx) (k : Nat) (e : Int × Int) : ∀ n, appN m (k + n) e = appN m n (appN m k e)
  | 0 => rfl
  | n + 1 => by
    show m.app (appN m (k + n) e) = _
    rw [appN_add m k e n]
    rfl
theorem appN_two (r : List Pc) (e : Int × Int) : ∀ n, appN (matR (r ++ r)) n e = appN (matR r) (2 * n) e
  | 0 => rfl
  | n + 1 => by
    have h : 2 * (n + 1) = 2 * n + 1 + 1 := by omega
    rw [h, appN_succ, appN_succ, appN_succ, appN_two r e n, mat_app2]
theorem appN_three (r : List Pc) (e : Int × Int) : ∀ n, appN (matR (r ++ r ++ r)) n e = appN (matR r) (3 * n) e
  | 0 => rfl
  | n + 1 => by
    have h : 3 * (n + 1) = 3 * n + 1 + 1 + 1 := by omega
    rw [h, appN_succ, appN_succ, appN_succ, appN_succ, appN_three r e n, mat_app2, mat_app2]
theorem app_sc' (m : Mx) (k : Int) (e : Int × Int) : m.app (sc k e) = sc k (m.app e) := by
  unfold sc Mx.app
  ext <;> dsimp <;> grind
theorem appN_sc (m : Mx) (k : Int) (e : Int × Int) : ∀ n, appN m n (sc k e) = sc k (appN m n e)
  | 0 => rfl
  | n + 1 => by
    rw [appN_succ, appN_succ, appN_sc m k e n, app_sc']
theorem low_appN {m : Mx} {e : Int × Int} (h : Pos2 e) (n : Nat) : low (appN m n (low e)) = low (appN m n e) := by
  have q : low (appN m n e) = low (appN m n (sc (gc e.1 e.2) (low e))) := by rw [← low_is h]
  rw [q, appN_sc, low_sc (gc_pos2 h)]
theorem low_app {m : Mx} {e : Int × Int} (h : Pos2 e) : low (m.app (low e)) = low (m.app e) := low_appN (m := m) h 1
theorem appN_conj (r r' : List Pc) (e : Int × Int) : ∀ n, appN (matR (r ++ r')) n ((matR r).app e) = (matR r).app (appN (matR (r' ++ r)) n e)
  | 0 => rfl
  | n + 1 => by
    rw [appN_succ, appN_succ, appN_conj r r' e n, mat_app2, mat_app2]
/-! ### which way a ladder goes -/
def goV (m : Mx) (e : Int × Int) : Int := (m.app e).1 * e.2 - e.1 * (m.app e).2
theorem sg_mul {k x : Int} (hk : 0 < k) : sg (k * x) = sg x := by
  unfold sg
  have h1 : 0 < k * x ↔ 0 < x := ⟨fun h => by
    rcases Int.lt_or_le 0 x with z | z
    · exact z
    · have := Int.mul_nonpos_of_nonneg_of_nonpos (Int.le_of_lt hk) z
      omega, fun h => Int.mul_pos hk h⟩
  have h2 : k * x < 0 ↔ x < 0 := ⟨fun h => by
    rcases Int.lt_or_le x 0 with z | z
    · exact z
    · have := Int.mul_nonneg (Int.le_of_lt hk) z
      omega, fun h => Int.mul_neg_of_pos_of_neg hk h⟩
  simp only [h1, h2]
theorem goV_sc (m : Mx) (k : Int) (e : Int × Int) : goV m (sc k e) = k * k * goV m e := by
  unfold goV sc Mx.app
  dsimp only
  grind
theorem goV_low {m : Mx} {e : Int × Int} (h : Pos2 e) : sg (goV m (low e)) = sg (goV m e) := by
  have q : goV m e = goV m (sc (gc e.1 e.2) (low e)) := by rw [← low_is h]
  rw [q, goV_sc, sg_mul (Int.mul_pos (gc_pos2 h) (gc_pos2 h))]
theorem goV_app (m : Mx) (e : Int × Int) : goV m (m.app e) = (m.a * m.d - m.b * m.c) * goV m e := by
  unfold goV Mx.app
  dsimp only
  grind
theorem goV_two (m : Mx) (e : Int × Int) : goV (m.mul m) e = (m.a + m.d) * goV m e := by
  unfold goV Mx.app Mx.mul
  dsimp only
  grind
theorem goV_appN {r : List Pc} (hr : RowOk r) (e : Int × Int) : ∀ n, sg (goV (matR r) (appN (matR r) n e)) = sg (goV (matR r) e)
  | 0 => rfl
  | n + 1 => by
    rw [appN_succ, goV_app, sg_mul (matR_ok hr).2.2.2.2, goV_appN hr e n]
theorem tr_pos {r : List Pc} (hr : RowOk r) : 0 < (matR r).a + (matR r).d ∧ 0 < (matR r).a ∧ 0 < (matR r).d := by
  obtain ⟨h1, h2, h3, h4, h5⟩ := matR_ok hr
  have h6 := Int.mul_nonneg h2 h3
  have h7 : 0 < (matR r).a * (matR r).d := by omega
  have ha : 0 < (matR r).a := by
    rcases Int.lt_or_le 0 (matR r).a with z | z
    · exact z
    · have : (matR r).a = 0 := by omega
      rw [this, Int.zero_mul] at h7
      omega
  have hd : 0 < (matR r).d := by
    rcases Int.lt_or_le 0 (matR r).d with z | z
    · exact z
    · have : (matR r).d = 0 := by omega
      rw [this, Int.mul_zero] at h7
      omega
  exact ⟨by omega, ha, hd⟩
theorem go_two {r : List Pc} (hr : RowOk r) (e : Int × Int) : sg (goV (matR (r ++ r)) e) = sg (goV (matR r) e) := by
  rw [mat_mul, goV_two, sg_mul (tr_pos hr).1]
/-! ### limits of joined ladders -/
theorem lim_scale {r R : List Pc} {k : Int} (hr : RowOk r) (hR : RowOk R) (hk : 0 < k) (hc : (matR R).c = k * (matR r).c) (hb : (matR R).b = k * (matR r).b) (hd : (matR R).d - (matR R).a = k * ((matR r).d - (matR r).a)) :
    ((matR R).c = 0 ↔ (matR r).c = 0) ∧ ((matR r).c ≠ 0 → eqL R = eqL r) := by
  obtain ⟨a1, b1, c1, d1, _⟩ := matR_ok hr
  obtain ⟨a2, b2, c2, d2, _⟩ := matR_ok hR
  have zc : ∀ x : Int, k * x = 0 ↔ x = 0 := fun x => ⟨fun h => by
    rcases Int.mul_eq_zero.mp h with z | z
    · omega
    · exact z, fun h => by rw [h, Int.mul_zero]⟩
  have ec : (matR R).c = 0 ↔ (matR r).c = 0 := by rw [hc]; exact zc _
  have eb : (matR R).b = 0 ↔ (matR r).b = 0 := by rw [hb]; exact zc _
  refine ⟨ec, fun cn => ?_⟩
  have cn' : (matR R).c ≠ 0 := fun z => cn (ec.mp z)
  unfold eqL
  by_cases bz : (matR r).b = 0
  · rw [if_pos bz, if_pos (eb.mpr bz)]
  · have bz' : (matR R).b ≠ 0 := fun z => bz (eb.mp z)
    rw [if_neg bz, if_neg bz']
    refine parts_prop (.inr ⟨by omega, by omega⟩) (.inr ⟨by omega, by omega⟩) ?_ ?_ ?_
    · rw [hc, hd]; grind
    · rw [hc, hb]; grind
    · rw [hd, hb]; grind
theorem lim_two {r : List Pc} (hr : RowOk r) : ((matR (r ++ r)).c = 0 ↔ (matR r).c = 0) ∧ ((matR r).c ≠ 0 → eqL (r ++ r) = eqL r) := by
  refine lim_scale (k := (matR r).a + (matR r).d) hr (hr.app hr) (tr_pos hr).1 ?_ ?_ ?_ <;> rw [mat_mul] <;> unfold Mx.mul <;> dsimp only <;> grind
theorem lim_three {r : List Pc} (hr : RowOk r) : ((matR (r ++ r ++ r)).c = 0 ↔ (matR r).c = 0) ∧ ((matR r).c ≠ 0 → eqL (r ++ r ++ r) = eqL r) := by
  obtain ⟨h1, h2, h3, h4, h5⟩ := matR_ok hr
  obtain ⟨_, ha, hd⟩ := tr_pos hr
  have hk : 0 < (matR r).a * (matR r).a + (matR r).a * (matR r).d + (matR r).d * (matR r).d + (matR r).b * (matR r).c := by
    have := Int.mul_pos ha ha
    have := Int.mul_pos ha hd
    have := Int.mul_pos hd hd
    have := Int.mul_nonneg h2 h3
    omega
  refine lim_scale hr ((hr.app hr).app hr) hk ?_ ?_ ?_ <;> rw [mat_mul, mat_mul] <;> unfold Mx.mul <;> dsimp only <;> grind
end RL

namespace RL
/-! ### patterns from behind -/
theorem RowOk.head1 {p : Pc} {r : List Pc} (h : RowOk (p :: r)) : RowOk [p] := fun q hq => h q (by rw [List.mem_singleton] at hq; rw [hq]; exact List.mem_cons_self)
def Mx.fl (m : Mx) : Mx := ⟨m.d, m.b, m.c, m.a⟩
theorem fl_mul (m n : Mx) : (m.mul n).fl = n.fl.mul m.fl := by
  unfold Mx.mul Mx.fl
  dsimp only
  congr 1 <;> grind
theorem fl_one (p : Pc) : (matR [p]).fl = matR [p] := by
  show (stepM m1 p).fl = stepM m1 p
  unfold stepM m1 Mx.fl
  split
  · dsimp only
    congr 1 <;> omega
  · dsimp only
    congr 1 <;> omega
theorem mat_rev (r : List Pc) : matR r.reverse = (matR r).fl := by
  induction r with
  | nil => rfl
  | cons p r ih =>
    rw [List.reverse_cons, mat_mul, ih, show p :: r = [p] ++ r from rfl, mat_mul, fl_mul, fl_one]
theorem scl_foldl (r : List Pc) : ∀ s : Int, r.foldl stepS s = s * r.foldl stepS 1 := by
  induction r with
  | nil => intro s; simp
  | cons p r ih =>
    intro s
    rw [List.foldl_cons, List.foldl_cons, ih, ih (stepS 1 p)]
    unfold stepS
    split
    · rw [Int.one_mul]
    · rw [Int.one_mul, Int.mul_assoc]
theorem scl_app (r r' : List Pc) : sclR (r ++ r') = sclR r * sclR r' := by
  unfold sclR
  rw [List.foldl_append, scl_foldl]
theorem scl_rev (r : List Pc) : sclR r.reverse = sclR r := by
  induction r with
  | nil => rfl
  | cons p r ih => rw [List.reverse_cons, scl_app, ih, show p :: r = [p] ++ r from rfl, scl_app, Int.mul_comm]
theorem four_rev (r : List Pc) : fourOf r.reverse = ((fourOf r).2.2.2, (fourOf r).2.1, (fourOf r).2.2.1, (fourOf r).1) := by
  unfold fourOf
  rw [mat_rev, scl_rev]
  rfl
/-! ### rows of both kinds -/
theorem c_pos {r : List Pc} (hr : RowOk r) (h : ∃ p ∈ r, p.1 = false) : 0 < (matR r).c := by
  induction r with
  | nil =>
    obtain ⟨p, hp, _⟩ := h
    cases hp
  | cons p r ih =>
    obtain ⟨_, a1, d1⟩ := tr_pos hr.tail
    obtain ⟨_, a2, d2⟩ := tr_pos (RowOk.head1 hr)
    obtain ⟨_, _, c1, _⟩ := matR_ok hr.tail
    obtain ⟨_, _, c2, _⟩ := matR_ok (RowOk.head1 hr)
    rw [show p :: r = [p] ++ r from rfl, mat_mul]
    show 0 < (matR [p]).c * (matR r).a + (matR [p]).d * (matR r).c
    have n1 := Int.mul_nonneg c2 (Int.le_of_lt a1)
    have n2 := Int.mul_nonneg (Int.le_of_lt d2) c1
    obtain ⟨q, hq, hf⟩ := h
    rcases List.mem_cons.mp hq with rfl | hq
    · have e : (matR [q]).c = 1 := by
        show (stepM m1 q).c = 1
        unfold stepM m1
        rw [if_neg (by rw [hf]; decide)]
        dsimp only
        omega
      rw [e, Int.one_mul]
      omega
    · have := Int.mul_pos d2 (ih hr.tail ⟨q, hq, hf⟩)
      omega
theorem b_pos {r : List Pc} (hr : RowOk r) (h : ∃ p ∈ r, p.1 = true) : 0 < (matR r).b := by
  induction r with
  | nil =>
    obtain ⟨p, hp, _⟩ := h
    cases hp
  | cons p r ih =>
    obtain ⟨_, a1, d1⟩ := tr_pos hr.tail
    obtain ⟨_, a2, d2⟩ := tr_pos (RowOk.head1 hr)
    obtain ⟨_, b1, _⟩ := matR_ok hr.tail
    obtain ⟨_, b2, _⟩ := matR_ok (RowOk.head1 hr)
    rw [show p :: r = [p] ++ r from rfl, mat_mul]
    show 0 < (matR [p]).a * (matR r).b + (matR [p]).b * (matR r).d
    have n1 := Int.mul_nonneg (Int.le_of_lt a2) b1
    have n2 := Int.mul_nonneg b2 (Int.le_of_lt d1)
    obtain ⟨q, hq, hf⟩ := h
    rcases List.mem_cons.mp hq with rfl | hq
    · have e : (matR [q]).b = q.2 := by
        show (stepM m1 q).b = q.2
        unfold stepM m1
        rw [if_pos hf]
        dsimp only
        omega
      have := hr.head.1
      have := Int.mul_pos (show 0 < (matR [q]).b by omega) d1
      omega
    · have := Int.mul_pos a2 (ih hr.tail ⟨q, hq, hf⟩)
      omega
/-! ### the two limits -/
theorem gc_neg2 (a b : Int) : gc a (-b) = gc a b := by
  unfold gc
  rw [Int.gcd_neg]
theorem rev_parts {c l b : Int} (hc : 1 ≤ c) (hb : 1 ≤ b) : ((parts c (-l) b).1 = 0 ↔ (parts c l b).1 = 0) ∧ ((parts c l b).1 = 0 → c * (parts c l b).2.2 * (parts c (-l) b).2.2 = b * (parts c l b).2.1 * (parts c (-l) b).2.1) ∧
    ((parts c l b).1 ≠ 0 → parts c (-l) b = ((parts c l b).1, -(parts c l b).2.1, (parts c l b).2.2)) := by
  have cz : ¬ c = 0 := by omega
  unfold parts
  rw [if_neg cz, if_neg cz, show -l * -l = l * l by grind]
  by_cases sq : rt (l * l + 4 * c * b) * rt (l * l + 4 * c * b) = l * l + 4 * c * b
  · rw [if_pos sq, if_pos sq]
    generalize rt (l * l + 4 * c * b) = ρ at *
    refine ⟨Iff.rfl, fun _ => ?_, fun z => absurd rfl z⟩
    have g1 : 0 < gc (ρ - l) (2 * c) := gc_pos (.inr (by omega))
    have g2 : 0 < gc (ρ - -l) (2 * c) := gc_pos (.inr (by omega))
    have t1 := ex_mul (gc_dvd1 (ρ - l) (2 * c)) g1
    have u1 := ex_mul (gc_dvd2 (ρ - l) (2 * c)) g1
    have t2 := ex_mul (gc_dvd1 (ρ - -l) (2 * c)) g2
    have u2 := ex_mul (gc_dvd2 (ρ - -l) (2 * c)) g2
    dsimp only
    generalize (ρ - l) / gc (ρ - l) (2 * c) = x1 at *
    generalize 2 * c / gc (ρ - l) (2 * c) = y1 at *
    generalize (ρ - -l) / gc (ρ - -l) (2 * c) = x2 at *
    generalize 2 * c / gc (ρ - -l) (2 * c) = y2 at *
    generalize gc (ρ - l) (2 * c) = k1 at *
    generalize gc (ρ - -l) (2 * c) = k2 at *
    have hk : k1 * k2 ≠ 0 := by
      have := Int.mul_pos g1 g2
      omega
    refine Int.eq_of_mul_eq_mul_left hk ?_
    have e1 : k1 * k2 * (c * x1 * x2) = c * ((k1 * x1) * (k2 * x2)) := by grind
    have e2 : k1 * k2 * (b * y1 * y2) = b * ((k1 * y1) * (k2 * y2)) := by grind
    rw [e1, e2]
    grind
  · rw [if_neg sq, if_neg sq, gc_neg2]
    have g1 : 0 < gc c l := gc_pos (.inl (by omega))
    have g0 : 0 < gc (gc c l) b := gc_pos (.inr (by omega))
    have dc : gc (gc c l) b ∣ c := Int.dvd_trans (gc_dvd1 _ _) (gc_dvd1 _ _)
    have dl : gc (gc c l) b ∣ l := Int.dvd_trans (gc_dvd1 _ _) (gc_dvd2 _ _)
    have cp : c / gc (gc c l) b ≠ 0 := fun z => by
      have := ex_mul dc g0
      rw [z, Int.mul_zero] at this
      omega
    dsimp only
    refine ⟨Iff.rfl, fun z => absurd z cp, fun _ => ?_⟩
    rw [Int.neg_ediv_of_dvd dl]
theorem pal_parts {c b : Int} (hc : 1 ≤ c) (h : (parts c 0 b).2.1 ≠ 0) : (parts c 0 b).1 = 0 := by
  have cz : ¬ c = 0 := by omega
  unfold parts at *
  rw [if_neg cz] at *
  split
  · rfl
  · rename_i sq
    rw [if_neg sq] at h
    exact absurd (Int.zero_ediv _) h
end RL

namespace RL
/-! ### rows of pieces with fractions as ohms; stars and rings -/
abbrev FPc := Bool × (Int × Int)
def FOk (p : FPc) : Prop := 1 ≤ p.2.1 ∧ 1 ≤ p.2.2 ∧ low p.2 = p.2
def fM (p : FPc) : Mx := if p.1 = true then ⟨p.2.2, p.2.1, 0, p.2.2⟩ else ⟨p.2.1, 0, p.2.2, p.2.1⟩
/-- one piece in front of a pair, ahead of lowest terms -/
def frU (p : FPc) (e : Int × Int) : Int × Int := if p.1 = true then (e.1 * p.2.2 + p.2.1 * e.2, e.2 * p.2.2) else if e.2 = 0 then (p.2.1, p.2.2) else (p.2.1 * e.1, p.2.1 * e.2 + p.2.2 * e.1)
def frF (p : FPc) (e : Int × Int) : Int × Int := low (frU p e)
def frFR (r : List FPc) (e : Int × Int) : Int × Int := r.foldr frF e
theorem mul_pos' {a b : Int} (h : 0 < a) (k : 0 < b) : 0 < a * b := Int.mul_pos h k
theorem frU_pos {p : FPc} {e : Int × Int} (h1 : 1 ≤ p.2.1) (h2 : 1 ≤ p.2.2) (h : Pos2 e) : Pos2 (frU p e) := by
  obtain ⟨x0, y0, xy⟩ := h
  have a1 := Int.mul_nonneg x0 (show 0 ≤ p.2.2 by omega)
  have a2 := Int.mul_nonneg (show 0 ≤ p.2.1 by omega) y0
  have a3 := Int.mul_nonneg y0 (show 0 ≤ p.2.2 by omega)
  have a4 := Int.mul_nonneg (show 0 ≤ p.2.1 by omega) x0
  have a5 := Int.mul_nonneg (show 0 ≤ p.2.2 by omega) x0
  unfold frU
  split
  · refine ⟨by show 0 ≤ e.1 * p.2.2 + p.2.1 * e.2; omega, a3, ?_⟩
    rcases xy with z | z
    · have := mul_pos' z (show 0 < p.2.2 by omega)
      exact .inl (by show 0 < e.1 * p.2.2 + p.2.1 * e.2; omega)
    · exact .inr (mul_pos' z (by omega))
  · split
    · exact ⟨by show 0 ≤ p.2.1; omega, by show 0 ≤ p.2.2; omega, .inl (by show 0 < p.2.1; omega)⟩
    · have yp : 0 < e.2 := by omega
      have := mul_pos' (show 0 < p.2.1 by omega) yp
      exact ⟨a4, by show 0 ≤ p.2.1 * e.2 + p.2.2 * e.1; omega, .inr (by show 0 < p.2.1 * e.2 + p.2.2 * e.1; omega)⟩
theorem frU_app {p : FPc} {e : Int × Int} (h : Pos2 e) : ∃ k, 0 < k ∧ (fM p).app e = sc k (frU p e) := by
  unfold fM frU Mx.app sc
  split
  · refine ⟨1, by decide, ?_⟩
    ext
    · dsimp
      grind
    · dsimp
      grind
  · split
    · next hz =>
      have : 0 < e.1 := by
        have := h.2.2
        omega
      refine ⟨e.1, this, ?_⟩
      rw [hz]
      ext
      · dsimp
        grind
      · dsimp
        grind
    · refine ⟨1, by decide, ?_⟩
      ext
      · dsimp
        grind
      · dsimp
        grind
theorem frF_app {p : FPc} {e : Int × Int} (h : Pos2 e) : frF p e = low ((fM p).app e) := by
  obtain ⟨k, hk, e1⟩ := frU_app (p := p) h
  rw [e1, low_sc hk]
  rfl
theorem frF_low {p : FPc} {e : Int × Int} (h : Pos2 e) : frF p (low e) = frF p e := by
  rw [frF_app (low_pos h), frF_app h, low_app h]
theorem frF_pos {p : FPc} {e : Int × Int} (h1 : 1 ≤ p.2.1) (h2 : 1 ≤ p.2.2) (h : Pos2 e) : Pos2 (frF p e) := low_pos (frU_pos h1 h2 h)
/-- a piece with a fraction that is not in lowest terms -/
def uM (w : Bool) (p q : Int) : Mx := if w = true then ⟨q, p, 0, q⟩ else ⟨p, 0, q, p⟩
theorem uM_low {w : Bool} {p q : Int} (hp : 0 < p) (hq : 0 < q) (e : Int × Int) : ∃ k, 0 < k ∧ (uM w p q).app e = sc k ((fM (w, low (p, q))).app e) := by
  have P : Pos2 (p, q) := ⟨Int.le_of_lt hp, Int.le_of_lt hq, .inl hp⟩
  have e0 := low_is P
  refine ⟨gc p q, gc_pos2 P, ?_⟩
  have e1 : p = gc p q * (low (p, q)).1 := congrArg Prod.fst e0
  have e2 : q = gc p q * (low (p, q)).2 := congrArg Prod.snd e0
  unfold uM fM Mx.app sc
  generalize gc p q = g at *
  generalize low (p, q) = l at *
  subst e1
  subst e2
  split <;> (ext <;> dsimp <;> grind)
theorem low_fr {p q : Int} (hp : 0 < p) (hq : 0 < q) : 1 ≤ (low (p, q)).1 ∧ 1 ≤ (low (p, q)).2 ∧ low (low (p, q)) = low (p, q) := by
  have P : Pos2 (p, q) := ⟨Int.le_of_lt hp, Int.le_of_lt hq, .inl hp⟩
  have e0 := low_is P
  have e1 : p = gc p q * (low (p, q)).1 := congrArg Prod.fst e0
  have e2 : q = gc p q * (low (p, q)).2 := congrArg Prod.snd e0
  obtain ⟨l1, l2, _⟩ := low_pos P
  have g0 : 0 < gc p q := gc_pos2 P
  refine ⟨?_, ?_, low_low P⟩
  · rcases Int.lt_or_le 0 (low (p, q)).1 with z | z
    · exact z
    · have : (low (p, q)).1 = 0 := by omega
      rw [this, Int.mul_zero] at e1
      omega
  · rcases Int.lt_or_le 0 (low (p, q)).2 with z | z
    · exact z
    · have : (low (p, q)).2 = 0 := by omega
      rw [this, Int.mul_zero] at e2
      omega
theorem frF_uM {w : Bool} {p q : Int} (hp : 0 < p) (hq : 0 < q) {e : Int × Int} (h : Pos2 e) : frF (w, low (p, q)) e = low ((uM w p q).app e) := by
  obtain ⟨k, hk, e1⟩ := uM_low (w := w) hp hq e
  rw [e1, low_sc hk, frF_app h]
/-- what is left out shows what lies behind it -/
def opt (w : Bool) (p q : Int) : List FPc := if (w = true ∧ p = 0) ∨ (w = false ∧ q = 0) then [] else [(w, low (p, q))]
theorem opt_low {w : Bool} {p q : Int} (hp : 0 ≤ p) (hq : 0 ≤ q) (hpq : 0 < p ∨ 0 < q) (hw : w = true → 0 < q) (hw' : w = false → 0 < p) {e : Int × Int} (h : Pos2 e) : frFR (opt w p q) (low e) = low ((uM w p q).app e) := by
  unfold opt
  split
  · next z =>
    show low e = _
    rcases z with ⟨z1, z2⟩ | ⟨z1, z2⟩
    · have := hw z1
      have e1 : (uM w p q).app e = sc q e := by
        unfold uM Mx.app sc
        rw [if_pos z1, z2]
        ext <;> dsimp <;> grind
      rw [e1, low_sc this]
    · have := hw' z1
      have e1 : (uM w p q).app e = sc p e := by
        unfold uM Mx.app sc
        rw [if_neg (by rw [z1]; decide), z2]
        ext <;> dsimp <;> grind
      rw [e1, low_sc this]
  · next z =>
    have hp' : 0 < p := by
      rcases Int.lt_or_le 0 p with y | y
      · exact y
      · exfalso
        have p0 : p = 0 := by omega
        cases w with
        | true => exact z (.inl ⟨rfl, p0⟩)
        | false =>
          have := hw' rfl
          omega
    have hq' : 0 < q := by
      rcases Int.lt_or_le 0 q with y | y
      · exact y
      · exfalso
        have q0 : q = 0 := by omega
        cases w with
        | true =>
          have := hw rfl
          omega
        | false => exact z (.inr ⟨rfl, q0⟩)
    show frF (w, low (p, q)) (low e) = _
    rw [frF_low h, frF_uM hp' hq' h]
theorem uM_pos {w : Bool} {p q : Int} (hp : 0 ≤ p) (hq : 0 ≤ q) (hw : w = true → 0 < q) (hw' : w = false → 0 < p) {e : Int × Int} (h : Pos2 e) : Pos2 ((uM w p q).app e) := by
  obtain ⟨x0, y0, xy⟩ := h
  have a1 := Int.mul_nonneg hq x0
  have a2 := Int.mul_nonneg hp y0
  have a3 := Int.mul_nonneg hq y0
  have a4 := Int.mul_nonneg hp x0
  unfold uM Mx.app
  cases w with
  | true =>
    have q0 := hw rfl
    simp only [if_true]
    refine ⟨by dsimp; omega, by dsimp; omega, ?_⟩
    rcases xy with z | z
    · have := mul_pos' q0 z
      exact .inl (by dsimp; omega)
    · have := mul_pos' q0 z
      exact .inr (by dsimp; omega)
  | false =>
    have p0 := hw' rfl
    rw [if_neg (by decide)]
    refine ⟨by dsimp; omega, by dsimp; omega, ?_⟩
    rcases xy with z | z
    · have := mul_pos' p0 z
      exact .inl (by dsimp; omega)
    · have := mul_pos' p0 z
      exact .inr (by dsimp; omega)
theorem frFR_app (r r' : List FPc) (e : Int × Int) : frFR (r ++ r') e = frFR r (frFR r' e) := List.foldr_append ..
/-- three pieces, of which some are left out -/
theorem three_low {w1 w2 w3 : Bool} {p1 q1 p2 q2 p3 q3 : Int} (a1 : 0 ≤ p1) (a2 : 0 ≤ q1) (a3 : w1 = true → 0 < q1) (a4 : w1 = false → 0 < p1) (b1 : 0 ≤ p2) (b2 : 0 ≤ q2) (b3 : w2 = true → 0 < q2) (b4 : w2 = false → 0 < p2) (c1 : 0 ≤ p3) (c2 : 0 ≤ q3) (c3 : w3 = true → 0 < q3) (c4 : w3 = false → 0 < p3) {e : Int × Int} (h : Pos2 e) :
    frFR (opt w1 p1 q1 ++ (opt w2 p2 q2 ++ opt w3 p3 q3)) (low e) = low ((uM w1 p1 q1).app ((uM w2 p2 q2).app ((uM w3 p3 q3).app e))) := by
  have or_ : ∀ {w : Bool} {p q : Int}, (w = true → 0 < q) → (w = false → 0 < p) → 0 < p ∨ 0 < q := fun {w p q} x y => by
    cases w with
    | true => exact .inr (x rfl)
    | false => exact .inl (y rfl)
  rw [frFR_app, frFR_app, opt_low c1 c2 (or_ c3 c4) c3 c4 h, opt_low b1 b2 (or_ b3 b4) b3 b4 (uM_pos c1 c2 c3 c4 h), opt_low a1 a2 (or_ a3 a4) a3 a4 (uM_pos b1 b2 b3 b4 (uM_pos c1 c2 c3 c4 h))]
/-! ### the scale beneath a and d -/
theorem fold_ge {r : List Pc} : ∀ {m : Mx} {s : Int}, RowOk r → 0 < s → 0 ≤ m.b → 0 ≤ m.c → s ≤ m.a → s ≤ m.d → r.foldl stepS s ≤ (r.foldl stepM m).a ∧ r.foldl stepS s ≤ (r.foldl stepM m).d := by
  induction r with
  | nil => exact fun _ _ _ _ h1 h2 => ⟨h1, h2⟩
  | cons p r ih =>
    intro m s hr s0 b0 c0 h1 h2
    obtain ⟨p1, p2⟩ := hr.head
    have m0 := Int.mul_nonneg c0 (show 0 ≤ p.2 by omega)
    have m1 := Int.mul_le_mul_of_nonneg_right h1 (show 0 ≤ p.2 by omega)
    have m2 := Int.mul_le_mul_of_nonneg_right h2 (show 0 ≤ p.2 by omega)
    have m3 := Int.mul_nonneg b0 (show 0 ≤ p.2 by omega)
    have m4 := mul_pos' s0 (show 0 < p.2 by omega)
    have m5 := Int.mul_nonneg (show 0 ≤ m.a by omega) (show 0 ≤ p.2 by omega)
    show (r.foldl stepS (stepS s p)) ≤ (r.foldl stepM (stepM m p)).a ∧ _
    refine ih hr.tail ?_ ?_ ?_ ?_ ?_ <;> (try unfold stepM) <;> (try unfold stepS) <;> split <;> (try dsimp) <;> omega
theorem scl_le {r : List Pc} (hr : RowOk r) : sclR r ≤ (matR r).a ∧ sclR r ≤ (matR r).d := fold_ge hr (by decide) (by decide) (by decide) (by decide) (by decide)
/-! ### stars and rings of rows -/
def starR (r : List Pc) : List FPc := if (matR r).c = 0 then [(true, low ((matR r).b, sclR r))] else opt true ((matR r).a - sclR r) (matR r).c ++ (opt false (sclR r) (matR r).c ++ opt true ((matR r).d - sclR r) (matR r).c)
def ringR (r : List Pc) : List FPc := if (matR r).b = 0 then [(false, low (sclR r, (matR r).c))] else opt false (matR r).b ((matR r).d - sclR r) ++ (opt true (matR r).b (sclR r) ++ opt false (matR r).b ((matR r).a - sclR r))
theorem both_zero {r : List Pc} (hr : RowOk r) (h1 : 1 ≤ r.length) : ¬ ((matR r).b = 0 ∧ (matR r).c = 0) := by
  rintro ⟨hb, hc⟩
  match r, h1 with
  | p :: r, _ =>
    cases q : p.1 with
    | true =>
      have := b_pos hr ⟨p, List.mem_cons_self, q⟩
      omega
    | false =>
      have := c_pos hr ⟨p, List.mem_cons_self, q⟩
      omega
theorem flat {a d s : Int} (s0 : 0 < s) (ha : s ≤ a) (hd : s ≤ d) (h : a * d = s * s) : a = s ∧ d = s := by
  have h1 := Int.mul_le_mul_of_nonneg_right ha (show 0 ≤ d by omega)
  have h2 := Int.mul_le_mul_of_nonneg_left hd (show 0 ≤ s by omega)
  have h3 : s * d = s * s := by omega
  have h4 : d = s := Int.eq_of_mul_eq_mul_left (by omega) h3
  subst h4
  exact ⟨Int.eq_of_mul_eq_mul_right (by omega) h, rfl⟩
theorem star_shows {r : List Pc} (hr : RowOk r) (h1 : 1 ≤ r.length) {e : Int × Int} (he : Pos2 e) (hl : low e = e) : frFR (starR r) e = low (frtR r e) := by
  rw [← shows_front hr he]
  have s0 := sclR_pos hr
  obtain ⟨ga, gd⟩ := scl_le hr
  have det := matR_det r
  obtain ⟨_, mb, mc, _, _⟩ := matR_ok hr
  have nz := both_zero hr h1
  unfold starR
  generalize matR r = m at *
  generalize sclR r = s at *
  obtain ⟨a, b, c, d⟩ := m
  dsimp at *
  split
  · next hc =>
    subst hc
    have hb : 0 < b := by omega
    obtain ⟨rfl, rfl⟩ := flat s0 ga gd (by grind)
    show frF (true, low (b, d)) e = _
    rw [frF_uM hb s0 he]
    rfl
  · next hc =>
    have hc' : 0 < c := by omega
    have t := three_low (w1 := true) (p1 := a - s) (q1 := c) (w2 := false) (p2 := s) (q2 := c) (w3 := true) (p3 := d - s) (q3 := c) (by omega) (by omega) (fun _ => hc') (fun z => by cases z) (by omega) (by omega) (fun z => by cases z) (fun _ => s0) (by omega) (by omega) (fun _ => hc') (fun z => by cases z) he
    rw [hl] at t
    rw [t]
    have e1 : (uM true (a - s) c).app ((uM false s c).app ((uM true (d - s) c).app e)) = sc (c * c) ((Mx.mk a b c d).app e) := by
      have dd : a * d - s * s = b * c := by omega
      unfold uM Mx.app sc
      rw [if_pos rfl, if_pos rfl, if_neg (by decide)]
      ext
      · dsimp
        have : c * c * (b * e.2) = c * (a * d - s * s) * e.2 := by rw [dd]; grind
        grind
      · dsimp
        grind
    rw [e1, low_sc (mul_pos' hc' hc')]
theorem ring_shows {r : List Pc} (hr : RowOk r) (h1 : 1 ≤ r.length) {e : Int × Int} (he : Pos2 e) (hl : low e = e) : frFR (ringR r) e = low (frtR r e) := by
  rw [← shows_front hr he]
  have s0 := sclR_pos hr
  obtain ⟨ga, gd⟩ := scl_le hr
  have det := matR_det r
  obtain ⟨_, mb, mc, _, _⟩ := matR_ok hr
  have nz := both_zero hr h1
  unfold ringR
  generalize matR r = m at *
  generalize sclR r = s at *
  obtain ⟨a, b, c, d⟩ := m
  dsimp at *
  split
  · next hb =>
    subst hb
    have hc : 0 < c := by omega
    obtain ⟨rfl, rfl⟩ := flat s0 ga gd (by grind)
    show frF (false, low (d, c)) e = _
    rw [frF_uM s0 hc he]
    rfl
  · next hb =>
    have hb' : 0 < b := by omega
    have t := three_low (w1 := false) (p1 := b) (q1 := d - s) (w2 := true) (p2 := b) (q2 := s) (w3 := false) (p3 := b) (q3 := a - s) (by omega) (by omega) (fun z => by cases z) (fun _ => hb') (by omega) (by omega) (fun _ => s0) (fun z => by cases z) (by omega) (by omega) (fun z => by cases z) (fun _ => hb') he
    rw [hl] at t
    rw [t]
    have e1 : (uM false b (d - s)).app ((uM true b s).app ((uM false b (a - s)).app e)) = sc (b * b) ((Mx.mk a b c d).app e) := by
      have dd : a * d - s * s = b * c := by omega
      unfold uM Mx.app sc
      rw [if_pos rfl, if_neg (by decide), if_neg (by decide)]
      ext
      · dsimp
        grind
      · dsimp
        have : b * b * (c * e.1) = b * (a * d - s * s) * e.1 := by rw [dd]; grind
        grind
    rw [e1, low_sc (mul_pos' hb' hb')]
end RL

namespace RL
/-! ### stars and rings: their form, and those of short rows -/
theorem sub_sm {p q : Int} {n : Nat} (hp : 0 < p) (hq : 0 < q) (h1 : Sm n p) (h2 : Sm n q) : Sm n (low (p, q)).1 ∧ Sm n (low (p, q)).2 := low_sm (e := (p, q)) ⟨Int.le_of_lt hp, Int.le_of_lt hq, .inl hp⟩ h1 h2
theorem opt_good {w : Bool} {p q : Int} {n : Nat} (hp : 0 ≤ p) (hq : 0 ≤ q) (hw : w = true → 0 < q) (hw' : w = false → 0 < p) (h1 : Sm n p) (h2 : Sm n q) : ∀ z ∈ opt w p q, FOk z ∧ Sm n z.2.1 ∧ Sm n z.2.2 := by
  intro z hz
  unfold opt at hz
  split at hz
  · cases hz
  · next c =>
    rw [List.mem_singleton] at hz
    subst hz
    have hp' : 0 < p := by
      cases w with
      | true =>
        have : p ≠ 0 := fun e => c (.inl ⟨rfl, e⟩)
        omega
      | false => exact hw' rfl
    have hq' : 0 < q := by
      cases w with
      | true => exact hw rfl
      | false =>
        have : q ≠ 0 := fun e => c (.inr ⟨rfl, e⟩)
        omega
    exact ⟨low_fr hp' hq', sub_sm hp' hq' h1 h2⟩
theorem opt_cases (w : Bool) (p q : Int) : (opt w p q).map (·.1) = [] ∨ (opt w p q).map (·.1) = [w] := by
  unfold opt
  split
  · exact .inl rfl
  · exact .inr rfl
theorem opt_len (w : Bool) (p q : Int) : (opt w p q).length ≤ 1 := by
  unfold opt
  split
  · exact Nat.zero_le _
  · exact Nat.le_refl _
theorem opt_one {w : Bool} {p q : Int} (hp : 0 < p) (hq : 0 < q) : opt w p q = [(w, low (p, q))] := by
  unfold opt
  rw [if_neg (by omega)]
theorem star_good {r : List Pc} (hr : RowOk r) (h1 : 1 ≤ r.length) (l8 : r.length ≤ 8) : (∀ z ∈ starR r, FOk z ∧ Sm 41 z.2.1 ∧ Sm 41 z.2.2) ∧ (starR r).length ≤ 3 := by
  have s0 := sclR_pos hr
  obtain ⟨ga, gd⟩ := scl_le hr
  obtain ⟨a0, a1, b0, b1, c0, c1, d0, d1⟩ := matR_le hr l8
  have k : ∀ z : Int, 0 ≤ z → z ≤ 815730721 → Sm 41 z := fun z h1 h2 => (sm30 h1 h2).mono (by decide)
  have nz := both_zero hr h1
  unfold starR
  split
  · next hc =>
    have hb : 0 < (matR r).b := by omega
    refine ⟨fun z hz => ?_, by show 1 ≤ 3; decide⟩
    rw [List.mem_singleton] at hz
    subst hz
    exact ⟨low_fr hb s0, sub_sm hb s0 (k _ b0 b1) (k _ (by omega) (by omega))⟩
  · next hc =>
    have hc' : 0 < (matR r).c := by omega
    refine ⟨fun z hz => ?_, ?_⟩
    · rcases List.mem_append.mp hz with hz | hz
      · exact opt_good (by omega) (by omega) (fun _ => hc') (fun z => by cases z) (k _ (by omega) (by omega)) (k _ c0 c1) z hz
      · rcases List.mem_append.mp hz with hz | hz
        · exact opt_good (by omega) (by omega) (fun z => by cases z) (fun _ => s0) (k _ (by omega) (by omega)) (k _ c0 c1) z hz
        · exact opt_good (by omega) (by omega) (fun _ => hc') (fun z => by cases z) (k _ (by omega) (by omega)) (k _ c0 c1) z hz
    · rw [List.length_append, List.length_append]
      have := opt_len true ((matR r).a - sclR r) (matR r).c
      have := opt_len false (sclR r) (matR r).c
      have := opt_len true ((matR r).d - sclR r) (matR r).c
      omega
theorem ring_good {r : List Pc} (hr : RowOk r) (h1 : 1 ≤ r.length) (l8 : r.length ≤ 8) : (∀ z ∈ ringR r, FOk z ∧ Sm 41 z.2.1 ∧ Sm 41 z.2.2) ∧ (ringR r).length ≤ 3 := by
  have s0 := sclR_pos hr
  obtain ⟨ga, gd⟩ := scl_le hr
  obtain ⟨a0, a1, b0, b1, c0, c1, d0, d1⟩ := matR_le hr l8
  have k : ∀ z : Int, 0 ≤ z → z ≤ 815730721 → Sm 41 z := fun z h1 h2 => (sm30 h1 h2).mono (by decide)
  have nz := both_zero hr h1
  unfold ringR
  split
  · next hb =>
    have hc : 0 < (matR r).c := by omega
    refine ⟨fun z hz => ?_, by show 1 ≤ 3; decide⟩
    rw [List.mem_singleton] at hz
    subst hz
    exact ⟨low_fr s0 hc, sub_sm s0 hc (k _ (by omega) (by omega)) (k _ c0 c1)⟩
  · next hb =>
    have hb' : 0 < (matR r).b := by omega
    refine ⟨fun z hz => ?_, ?_⟩
    · rcases List.mem_append.mp hz with hz | hz
      · exact opt_good (by omega) (by omega) (fun z => by cases z) (fun _ => hb') (k _ b0 b1) (k _ (by omega) (by omega)) z hz
      · rcases List.mem_append.mp hz with hz | hz
        · exact opt_good (by omega) (by omega) (fun _ => s0) (fun z => by cases z) (k _ b0 b1) (k _ (by omega) (by omega)) z hz
        · exact opt_good (by omega) (by omega) (fun z => by cases z) (fun _ => hb') (k _ b0 b1) (k _ (by omega) (by omega)) z hz
    · rw [List.length_append, List.length_append]
      have := opt_len false (matR r).b ((matR r).d - sclR r)
      have := opt_len true (matR r).b (sclR r)
      have := opt_len false (matR r).b ((matR r).a - sclR r)
      omega
theorem star_words {r : List Pc} (hr : RowOk r) (h1 : 1 ≤ r.length) : (starR r).map (·.1) ∈ [[true, false, true], [true, false], [false, true], [false], [true]] := by
  have s0 := sclR_pos hr
  obtain ⟨_, _, mc, _, _⟩ := matR_ok hr
  unfold starR
  split
  · simp
  · next hc =>
    rw [opt_one (w := false) s0 (by omega), List.map_append, List.map_append]
    rcases opt_cases true ((matR r).a - sclR r) (matR r).c with e | e <;> rcases opt_cases true ((matR r).d - sclR r) (matR r).c with e' | e' <;> rw [e, e'] <;> simp
theorem ring_words {r : List Pc} (hr : RowOk r) (h1 : 1 ≤ r.length) : (ringR r).map (·.1) ∈ [[false, true, false], [false, true], [true, false], [true], [false]] := by
  have s0 := sclR_pos hr
  obtain ⟨_, mb, _, _, _⟩ := matR_ok hr
  unfold ringR
  split
  · simp
  · next hb =>
    rw [opt_one (w := true) (show 0 < (matR r).b by omega) s0, List.map_append, List.map_append]
    rcases opt_cases false (matR r).b ((matR r).d - sclR r) with e | e <;> rcases opt_cases false (matR r).b ((matR r).a - sclR r) with e' | e' <;> rw [e, e'] <;> simp
theorem rails_c {r : List Pc} : ∀ {m : Mx}, (∀ p ∈ r, p.1 = true) → (r.foldl stepM m).c = m.c := by
  induction r with
  | nil => exact fun _ => rfl
  | cons p r ih =>
    intro m h
    show (r.foldl stepM (stepM m p)).c = m.c
    rw [ih fun q hq => h q (List.mem_cons_of_mem _ hq)]
    unfold stepM
    rw [if_pos (h p List.mem_cons_self)]
theorem rungs_b {r : List Pc} : ∀ {m : Mx}, (∀ p ∈ r, p.1 = false) → m.b = 0 → (r.foldl stepM m).b = 0 := by
  induction r with
  | nil => exact fun _ h => h
  | cons p r ih =>
    intro m h hb
    show (r.foldl stepM (stepM m p)).b = 0
    refine ih (fun q hq => h q (List.mem_cons_of_mem _ hq)) ?_
    unfold stepM
    rw [if_neg (by rw [h p List.mem_cons_self]; decide)]
    dsimp
    rw [hb, Int.zero_mul]
theorem mono_row {r : List Pc} (hr : RowOk r) (h1 : 1 ≤ r.length) {w : Bool} (h : ∀ p ∈ r, p.1 = w) : ringR r = starR r ∧ ∃ x, starR r = [(w, x)] := by
  have s0 := sclR_pos hr
  obtain ⟨ga, gd⟩ := scl_le hr
  have det := matR_det r
  have nz := both_zero hr h1
  obtain ⟨_, mb, mc, _, _⟩ := matR_ok hr
  cases w with
  | true =>
    have hc : (matR r).c = 0 := rails_c h
    have hb : (matR r).b ≠ 0 := fun e => nz ⟨e, hc⟩
    rw [hc, Int.mul_zero, Int.sub_zero] at det
    obtain ⟨ea, ed⟩ := flat s0 ga gd det
    unfold ringR starR
    rw [if_pos hc, if_neg hb, ea, ed, Int.sub_self]
    have o : opt false (matR r).b 0 = [] := by
      unfold opt
      rw [if_pos (.inr ⟨rfl, rfl⟩)]
    rw [o, opt_one (w := true) (show 0 < (matR r).b by omega) s0]
    exact ⟨rfl, _, rfl⟩
  | false =>
    have hb : (matR r).b = 0 := rungs_b h rfl
    have hc : (matR r).c ≠ 0 := fun e => nz ⟨hb, e⟩
    rw [hb, Int.zero_mul, Int.sub_zero] at det
    obtain ⟨ea, ed⟩ := flat s0 ga gd det
    unfold ringR starR
    rw [if_pos hb, if_neg hc, ea, ed, Int.sub_self]
    have o : opt true 0 (matR r).c = [] := by
      unfold opt
      rw [if_pos (.inl ⟨rfl, rfl⟩)]
    rw [o, opt_one (w := false) s0 (show 0 < (matR r).c by omega)]
    exact ⟨rfl, _, rfl⟩
def asF (r : List Pc) : List FPc := r.map fun p => (p.1, (p.2, 1))
theorem gc_1 (p : Int) : gc p 1 = 1 := by
  unfold gc
  simp
theorem low_one (p : Int) : low (p, 1) = (p, 1) := by
  unfold low
  dsimp
  rw [gc_1, Int.ediv_one, Int.ediv_one]
theorem low_mul {k p : Int} (hk : 0 < k) : low (k * p, k) = (p, 1) := by
  have e : (k * p, k) = sc k (p, 1) := by
    unfold sc
    dsimp
    rw [Int.mul_one]
  rw [e, low_sc hk, low_one]
theorem three_words {r : List Pc} {a b c : Bool} (h : r.map (·.1) = [a, b, c]) : ∃ p q t : Int, r = [(a, p), (b, q), (c, t)] := by
  match r, h with
  | [x, y, z], h =>
    simp only [List.map_cons, List.map_nil, List.cons.injEq, and_true] at h
    obtain ⟨h1, h2, h3⟩ := h
    exact ⟨x.2, y.2, z.2, by rw [← h1, ← h2, ← h3]⟩
theorem two_words {r : List Pc} {a b : Bool} (h : r.map (·.1) = [a, b]) : ∃ p q : Int, r = [(a, p), (b, q)] := by
  match r, h with
  | [x, y], h =>
    simp only [List.map_cons, List.map_nil, List.cons.injEq, and_true] at h
    obtain ⟨h1, h2⟩ := h
    exact ⟨x.2, y.2, by rw [← h1, ← h2]⟩
theorem star_short {r : List Pc} (hr : RowOk r) (h : r.map (·.1) ∈ [[true, false, true], [true, false], [false, true]]) : starR r = asF r := by
  simp only [List.mem_cons, List.not_mem_nil, or_false] at h
  rcases h with h | h | h
  · obtain ⟨p, q, t, rfl⟩ := three_words h
    have hp := (hr (true, p) (by simp)).1
    have hq := (hr (false, q) (by simp)).1
    have ht := (hr (true, t) (by simp)).1
    dsimp at hp hq ht
    have em : matR [(true, p), (false, q), (true, t)] = ⟨p + q, (p + q) * t + p * q, 1, t + q⟩ := by
      unfold matR
      simp [stepM, m1]
      grind
    have es : sclR [(true, p), (false, q), (true, t)] = q := by
      unfold sclR
      simp [stepS]
    unfold starR
    rw [em, es]
    dsimp
    rw [show p + q - q = p by omega, show t + q - q = t by omega, opt_one (by omega) (by decide), opt_one (by omega) (by decide), opt_one (by omega) (by decide), low_one, low_one, low_one]
    rfl
  · obtain ⟨p, q, rfl⟩ := two_words h
    have hp := (hr (true, p) (by simp)).1
    have hq := (hr (false, q) (by simp)).1
    dsimp at hp hq
    have em : matR [(true, p), (false, q)] = ⟨p + q, p * q, 1, q⟩ := by
      unfold matR
      simp [stepM, m1]
      grind
    have es : sclR [(true, p), (false, q)] = q := by
      unfold sclR
      simp [stepS]
    unfold starR
    rw [em, es]
    dsimp
    have o : opt true (q - q) 1 = [] := by
      unfold opt
      rw [if_pos (.inl ⟨rfl, by omega⟩)]
    rw [o, show p + q - q = p by omega, opt_one (by omega) (by decide), opt_one (by omega) (by decide), low_one, low_one]
    rfl
  · obtain ⟨q, t, rfl⟩ := two_words h
    have hq := (hr (false, q) (by simp)).1
    have ht := (hr (true, t) (by simp)).1
    dsimp at hq ht
    have em : matR [(false, q), (true, t)] = ⟨q, q * t, 1, t + q⟩ := by
      unfold matR
      simp [stepM, m1]
    have es : sclR [(false, q), (true, t)] = q := by
      unfold sclR
      simp [stepS]
    unfold starR
    rw [em, es]
    dsimp
    have o : opt true (q - q) 1 = [] := by
      unfold opt
      rw [if_pos (.inl ⟨rfl, by omega⟩)]
    rw [o, show t + q - q = t by omega, opt_one (by omega) (by decide), opt_one (by omega) (by decide), low_one, low_one]
    rfl
theorem ring_short {r : List Pc} (hr : RowOk r) (h : r.map (·.1) ∈ [[false, true, false], [true, false], [false, true]]) : ringR r = asF r := by
  simp only [List.mem_cons, List.not_mem_nil, or_false] at h
  rcases h with h | h | h
  · obtain ⟨p, q, t, rfl⟩ := three_words h
    have hp := (hr (false, p) (by simp)).1
    have hq := (hr (true, q) (by simp)).1
    have ht := (hr (false, t) (by simp)).1
    dsimp at hp hq ht
    have em : matR [(false, p), (true, q), (false, t)] = ⟨p * t + p * q, p * q * t, t + (q + p), (q + p) * t⟩ := by
      unfold matR
      simp [stepM, m1]
    have es : sclR [(false, p), (true, q), (false, t)] = p * t := by
      unfold sclR
      simp [stepS]
    have pq := mul_pos' (show 0 < p by omega) (show 0 < q by omega)
    have pt := mul_pos' (show 0 < p by omega) (show 0 < t by omega)
    have qt := mul_pos' (show 0 < q by omega) (show 0 < t by omega)
    have pqt := mul_pos' pq (show 0 < t by omega)
    unfold ringR
    rw [em, es]
    dsimp
    rw [if_neg (by omega), show (q + p) * t - p * t = q * t by grind, show p * t + p * q - p * t = p * q by omega, opt_one pqt qt, opt_one pqt pt, opt_one pqt pq]
    rw [show p * q * t = q * t * p by grind, low_mul qt, show q * t * p = p * t * q by grind, low_mul pt, show p * t * q = p * q * t by grind, low_mul pq]
    rfl
  · obtain ⟨p, q, rfl⟩ := two_words h
    have hp := (hr (true, p) (by simp)).1
    have hq := (hr (false, q) (by simp)).1
    dsimp at hp hq
    have em : matR [(true, p), (false, q)] = ⟨p + q, p * q, 1, q⟩ := by
      unfold matR
      simp [stepM, m1]
      grind
    have es : sclR [(true, p), (false, q)] = q := by
      unfold sclR
      simp [stepS]
    have pq := mul_pos' (show 0 < p by omega) (show 0 < q by omega)
    unfold ringR
    rw [em, es]
    dsimp
    have o : opt false (p * q) (q - q) = [] := by
      unfold opt
      rw [if_pos (.inr ⟨rfl, by omega⟩)]
    rw [if_neg (by omega), o, show p + q - q = p by omega, opt_one pq (by omega), opt_one pq (by omega)]
    rw [low_mul (show 0 < p by omega), show p * q = q * p by grind, low_mul (show 0 < q by omega)]
    rfl
  · obtain ⟨q, t, rfl⟩ := two_words h
    have hq := (hr (false, q) (by simp)).1
    have ht := (hr (true, t) (by simp)).1
    dsimp at hq ht
    have em : matR [(false, q), (true, t)] = ⟨q, q * t, 1, t + q⟩ := by
      unfold matR
      simp [stepM, m1]
    have es : sclR [(false, q), (true, t)] = q := by
      unfold sclR
      simp [stepS]
    have qt := mul_pos' (show 0 < q by omega) (show 0 < t by omega)
    unfold ringR
    rw [em, es]
    dsimp
    have o : opt false (q * t) (q - q) = [] := by
      unfold opt
      rw [if_pos (.inr ⟨rfl, by omega⟩)]
    rw [if_neg (by omega), o, show t + q - q = t by omega, opt_one qt (by omega), opt_one qt (by omega)]
    rw [low_mul (show 0 < q by omega), show q * t = t * q by grind, low_mul (show 0 < t by omega)]
    rfl
end RL

/-! Repetitions of rows: the functions that the program computes. -/
namespace RL
/-- two neighbours of a row in which each number is t times the one ahead of it less the one ahead of that -/
def ch (t b : Int) : Nat → Int × Int → Int × Int
  | 0, e => e
  | n + 1, e => ((ch t b n e).2, t * (ch t b n e).2 - b * b * (ch t b n e).1)
/-- halving -/
def bis (P : Int → Bool) : Nat → Int → Int → Int
  | 0, lo, _ => lo
  | n + 1, lo, hi => if lo < hi then (if P ((lo + hi) / 2) = true then bis P n ((lo + hi) / 2 + 1) hi else bis P n lo ((lo + hi) / 2)) else lo
theorem bis_fuel (P : Int → Bool) : ∀ (n m : Nat) (lo hi : Int), hi - lo ≤ n → hi - lo ≤ m → bis P n lo hi = bis P m lo hi
  | 0, 0, _, _, _, _ => rfl
  | 0, m + 1, lo, hi, h, _ => by
    unfold bis
    rw [if_neg (by omega)]
  | n + 1, 0, lo, hi, _, h => by
    unfold bis
    rw [if_neg (by omega)]
  | n + 1, m + 1, lo, hi, h, h' => by
    unfold bis
    split
    · split
      · exact bis_fuel P n m _ _ (by omega) (by omega)
      · exact bis_fuel P n m _ _ (by omega) (by omega)
    · rfl
def bisR (P : Int → Bool) (lo hi : Int) : Int := bis P (hi - lo).toNat lo hi
theorem bisR_done {P : Int → Bool} {lo hi : Int} (h : ¬ lo < hi) : bisR P lo hi = lo := by
  unfold bisR
  rw [show (hi - lo).toNat = 0 by omega]
  rfl
theorem bisR_up {P : Int → Bool} {lo hi : Int} (h : lo < hi) (p : P ((lo + hi) / 2) = true) : bisR P ((lo + hi) / 2 + 1) hi = bisR P lo hi := by
  unfold bisR
  obtain ⟨n, e⟩ : ∃ n, (hi - lo).toNat = n + 1 := ⟨(hi - lo).toNat - 1, by omega⟩
  rw [e]
  rw [show bis P (n + 1) lo hi = bis P n ((lo + hi) / 2 + 1) hi by rw [bis.eq_2, if_pos h, if_pos p]]
  exact bis_fuel P (hi - ((lo + hi) / 2 + 1)).toNat n ((lo + hi) / 2 + 1) hi (by omega) (by omega)
theorem bisR_down {P : Int → Bool} {lo hi : Int} (h : lo < hi) (p : ¬ P ((lo + hi) / 2) = true) : bisR P lo ((lo + hi) / 2) = bisR P lo hi := by
  unfold bisR
  obtain ⟨n, e⟩ : ∃ n, (hi - lo).toNat = n + 1 := ⟨(hi - lo).toNat - 1, by omega⟩
  rw [e]
  rw [show bis P (n + 1) lo hi = bis P n lo ((lo + hi) / 2) by rw [bis.eq_2, if_pos h, if_neg p]]
  exact bis_fuel P ((lo + hi) / 2 - lo).toNat n lo ((lo + hi) / 2) (by omega) (by omega)
theorem bis_in (P : Int → Bool) : ∀ (n : Nat) (lo hi : Int), lo ≤ bis P n lo hi ∧ (bis P n lo hi ≤ lo ∨ bis P n lo hi ≤ hi)
  | 0, lo, hi => ⟨Int.le_refl _, .inl (Int.le_refl _)⟩
  | n + 1, lo, hi => by
    unfold bis
    split
    · split
      · have := bis_in P n ((lo + hi) / 2 + 1) hi
        omega
      · have := bis_in P n lo ((lo + hi) / 2)
        omega
    · omega
theorem bisR_in (P : Int → Bool) (lo hi : Int) : lo ≤ bisR P lo hi ∧ (bisR P lo hi ≤ lo ∨ bisR P lo hi ≤ hi) := bis_in P _ lo hi
def rootX (number : Int) (n : Nat) : Int := bisR (fun m => decide (m ^ n < number)) 1 number
def rootR (number : Int) (n : Nat) : Option Int := if rootX number n ^ n = number then some (rootX number n) else none
def sumX (n : Nat) (total b : Int) : Int := bisR (fun m => decide ((ch m b (n - 1) (2, m)).2 < total)) (2 * b) total
def sumR (n : Nat) (total b : Int) : Option Int := if (ch (sumX n total b) b (n - 1) (2, sumX n total b)).2 = total then some (sumX n total b) else none
def lostR (s top b : Int) (n : Nat) : Int := ((ch top b (n - 1) (0, 1)).2 - (ch top b (n - 1) (0, 1)).1 * b) * s
def rowT (m : Mx) (s b top : Int) (n : Nat) : Option (List FPc) :=
  if m.a * b ^ (n - 1) - lostR s top b n < 0 ∨ m.d * b ^ (n - 1) - lostR s top b n < 0 then none
  else some (opt true (m.a * b ^ (n - 1) - lostR s top b n) (m.c * b ^ (n - 1)) ++ (opt false ((ch top b (n - 1) (0, 1)).2 * s) (m.c * b ^ (n - 1)) ++ opt true (m.d * b ^ (n - 1) - lostR s top b n) (m.c * b ^ (n - 1))))
def rowR (m : Mx) (s total b : Int) (n : Nat) : Option (List FPc) := match sumR n total b with
  | none => none
  | some top => rowT m s b top n
def tryR (m : Mx) (s total bottom : Int) (n : Nat) : Option (List FPc) := match rootR bottom n with
  | none => none
  | some b => rowR m s total b n
def repL (m : Mx) (s total bottom : Int) : Nat → Option (Nat × List FPc)
  | 0 => none
  | n + 1 => match tryR m s total bottom (n + 1) with
    | some r => some (n + 1, r)
    | none => repL m s total bottom n

def repR (bitsN : Int → Nat) (r : List Pc) : Option (Nat × List FPc) :=
  if (matR r).b = 0 ∨ (matR r).c = 0 then none
  else repL (matR r) (sclR r) (low ((matR r).a + (matR r).d, sclR r)).1 (low ((matR r).a + (matR r).d, sclR r)).2 (bitsN (low ((matR r).a + (matR r).d, sclR r)).1)
/-! ### from behind -/
theorem opt_rev (w : Bool) (p q : Int) : (opt w p q).reverse = opt w p q := by
  unfold opt
  split <;> rfl
theorem three_rev (w w' w'' : Bool) (p q p' q' p'' q'' : Int) : (opt w p q ++ (opt w' p' q' ++ opt w'' p'' q'')).reverse = opt w'' p'' q'' ++ (opt w' p' q' ++ opt w p q) := by
  rw [List.reverse_append, List.reverse_append, opt_rev, opt_rev, opt_rev, List.append_assoc]
theorem row_fl (m : Mx) (s b top : Int) (n : Nat) : rowT m.fl s b top n = (rowT m s b top n).map List.reverse := by
  unfold rowT Mx.fl
  dsimp only
  by_cases h : m.a * b ^ (n - 1) - lostR s top b n < 0 ∨ m.d * b ^ (n - 1) - lostR s top b n < 0
  · rw [if_pos h, if_pos h.symm]
    rfl
  · rw [if_neg h, if_neg (fun z => h z.symm), Option.map_some, three_rev]
theorem try_fl (m : Mx) (s total bottom : Int) (n : Nat) : tryR m.fl s total bottom n = (tryR m s total bottom n).map List.reverse := by
  unfold tryR
  cases rootR bottom n with
  | none => rfl
  | some b =>
    show rowR m.fl s total b n = (rowR m s total b n).map List.reverse
    unfold rowR
    cases sumR n total b with
    | none => rfl
    | some top => exact row_fl m s b top n
theorem rep_fl (m : Mx) (s total bottom : Int) : ∀ n, repL m.fl s total bottom n = (repL m s total bottom n).map fun p => (p.1, p.2.reverse)
  | 0 => rfl
  | n + 1 => by
    unfold repL
    rw [try_fl]
    cases tryR m s total bottom (n + 1) with
    | none => exact rep_fl m s total bottom n
    | some r => rfl
theorem rep_rev (bitsN : Int → Nat) (r : List Pc) : repR bitsN r.reverse = (repR bitsN r).map fun p => (p.1, p.2.reverse) := by
  unfold repR
  rw [mat_rev, scl_rev]
  have e1 : (matR r).fl.b = (matR r).b := rfl
  have e2 : (matR r).fl.c = (matR r).c := rfl
  have e3 : (matR r).fl.a + (matR r).fl.d = (matR r).a + (matR r).d := Int.add_comm ..
  rw [e1, e2, e3]
  split
  · rfl
  · exact rep_fl _ _ _ _ _
theorem star_rev (r : List Pc) : starR r.reverse = (starR r).reverse := by
  unfold starR
  rw [mat_rev, scl_rev]
  show (if (matR r).c = 0 then _ else _) = _
  split
  · rfl
  · rw [three_rev]
    rfl
theorem ring_rev (r : List Pc) : ringR r.reverse = (ringR r).reverse := by
  unfold ringR
  rw [mat_rev, scl_rev]
  show (if (matR r).b = 0 then _ else _) = _
  split
  · rfl
  · rw [three_rev]
    rfl
/-! ### bounds -/
theorem ch_sum (t b : Int) : ∀ k, (ch t b k (2, t)).1 = 2 * (ch t b k (0, 1)).2 - t * (ch t b k (0, 1)).1 ∧ (ch t b k (2, t)).2 = t * (ch t b k (0, 1)).2 - 2 * (b * b * (ch t b k (0, 1)).1)
  | 0 => by
    unfold ch
    dsimp only
    omega
  | k + 1 => by
    obtain ⟨h1, h2⟩ := ch_sum t b k
    unfold ch
    dsimp only
    rw [h1, h2]
    constructor <;> grind
theorem ch_pos {t b : Int} (hb : 1 ≤ b) (ht : 2 * b ≤ t) : ∀ k, 0 ≤ (ch t b k (0, 1)).1 ∧ b * (ch t b k (0, 1)).1 + 1 ≤ (ch t b k (0, 1)).2
  | 0 => by
    unfold ch
    dsimp only
    omega
  | k + 1 => by
    obtain ⟨h1, h2⟩ := ch_pos hb ht k
    unfold ch
    dsimp only
    generalize (ch t b k (0, 1)).1 = x at *
    generalize (ch t b k (0, 1)).2 = y at *
    have n1 := Int.mul_nonneg (show 0 ≤ b by omega) h1
    have y0 : 0 ≤ y := by omega
    have n2 := Int.mul_le_mul_of_nonneg_right ht y0
    have n3 := Int.mul_le_mul_of_nonneg_right hb (show 0 ≤ y - b * x by omega)
    have e1 : b * (y - b * x) = b * y - b * b * x := by grind
    have e2 : 2 * b * y = 2 * (b * y) := by grind
    constructor <;> omega
theorem ch_two (b : Int) : ∀ k, ch (2 * b) b k (2, 2 * b) = (2 * b ^ k, 2 * b ^ (k + 1))
  | 0 => by
    unfold ch
    ext
    · show 2 = 2 * b ^ 0
      rw [Int.pow_zero]
      rfl
    · show 2 * b = 2 * b ^ (0 + 1)
      rw [Int.pow_succ, Int.pow_zero, Int.one_mul]
  | k + 1 => by
    unfold ch
    rw [ch_two b k]
    ext
    · rfl
    · show 2 * b * (2 * b ^ (k + 1)) - b * b * (2 * b ^ k) = 2 * b ^ (k + 1 + 1)
      rw [Int.pow_succ b (k + 1), Int.pow_succ b k]
      grind
/-- what the row wants -/
theorem row_ok {total b top : Int} {n : Nat} (hb : 1 ≤ b) (hn : 1 ≤ n) (ht : 2 * b ^ n < total) (h : sumR n total b = some top) : 2 * b < top ∧ 0 < (ch top b (n - 1) (0, 1)).2 ∧ (ch top b (n - 1) (0, 1)).2 ≤ total ∧ 0 ≤ (ch top b (n - 1) (0, 1)).1 ∧ b * (ch top b (n - 1) (0, 1)).1 ≤ total ∧ top = sumX n total b := by
  unfold sumR at h
  split at h
  · rename_i e
    cases h
    have i := (bisR_in (fun m => decide ((ch m b (n - 1) (2, m)).2 < total)) (2 * b) total).1
    replace i : 2 * b ≤ sumX n total b := i
    generalize sumX n total b = top at *
    have nt : top ≠ 2 * b := fun z => by
      rw [z, ch_two] at e
      replace e : 2 * b ^ (n - 1 + 1) = total := e
      rw [show n - 1 + 1 = n by omega] at e
      omega
    obtain ⟨x0, y0⟩ := ch_pos hb i (n - 1)
    obtain ⟨_, e2⟩ := ch_sum top b (n - 1)
    rw [e2] at e
    generalize (ch top b (n - 1) (0, 1)).1 = x at *
    generalize (ch top b (n - 1) (0, 1)).2 = y at *
    have n1 := Int.mul_nonneg (show 0 ≤ b by omega) x0
    have n2 := Int.mul_le_mul_of_nonneg_right (show 2 * b + 1 ≤ top by omega) (show 0 ≤ y by omega)
    have n3 := Int.mul_nonneg (show 0 ≤ b by omega) (show 0 ≤ y - b * x by omega)
    have e1 : b * (y - b * x) = b * y - b * b * x := by grind
    have e3 : (2 * b + 1) * y = 2 * (b * y) + y := by grind
    refine ⟨by omega, by omega, by omega, x0, by omega, rfl⟩
  · cases h
theorem root_ok {number b : Int} {n : Nat} (h : rootR number n = some b) : b ^ n = number ∧ 1 ≤ b ∧ b = rootX number n := by
  unfold rootR at h
  split at h
  · rename_i e
    cases h
    exact ⟨e, (bisR_in _ 1 number).1, rfl⟩
  · cases h
theorem pow_le_mul {b : Int} (hb : 1 ≤ b) : ∀ n, 1 ≤ b ^ n ∧ b ^ n ≤ b ^ (n + 1)
  | 0 => by
    rw [Int.pow_succ, Int.pow_zero, Int.one_mul]
    omega
  | n + 1 => by
    obtain ⟨h1, h2⟩ := pow_le_mul hb n
    have n1 := Int.mul_le_mul_of_nonneg_left hb (show 0 ≤ b ^ (n + 1) by omega)
    rw [Int.pow_succ b (n + 1)]
    omega
end RL

/-! How fast ladders come near their limits. -/
namespace RL
theorem one_rail {q : Pc} (h : q.1 = true) : matR [q] = ⟨1, q.2, 0, 1⟩ ∧ sclR [q] = 1 := by
  refine ⟨?_, ?_⟩
  · show stepM m1 q = _
    unfold stepM m1
    rw [if_pos h]
    simp
  · show stepS 1 q = 1
    unfold stepS
    rw [if_pos h]
theorem one_rung {q : Pc} (h : q.1 = false) : matR [q] = ⟨q.2, 0, 1, q.2⟩ ∧ sclR [q] = q.2 := by
  refine ⟨?_, ?_⟩
  · show stepM m1 q = _
    unfold stepM m1
    rw [if_neg (by rw [h]; decide)]
    simp
  · show stepS 1 q = q.2
    unfold stepS
    rw [if_neg (by rw [h]; decide)]
    simp
theorem scl_pos' {r : List Pc} (hr : RowOk r) : 0 < sclR r := by
  induction r with
  | nil => decide
  | cons p r ih =>
    rw [show p :: r = [p] ++ r from rfl, scl_app]
    refine Int.mul_pos ?_ (ih hr.tail)
    cases hp : p.1
    · rw [(one_rung hp).2]
      have := hr.head.1
      omega
    · rw [(one_rail hp).2]
      decide
theorem b_ge {r : List Pc} (hr : RowOk r) (h : ∃ p ∈ r, p.1 = true) : sclR r ≤ (matR r).b := by
  induction r with
  | nil =>
    obtain ⟨p, hp, _⟩ := h
    cases hp
  | cons p r ih =>
    obtain ⟨_, b1, c1, _⟩ := matR_ok hr.tail
    obtain ⟨a2, d2⟩ := scl_le hr.tail
    have s2 := scl_pos' hr.tail
    have o1 := hr.head.1
    rw [show p :: r = [p] ++ r from rfl, scl_app, mat_mul]
    show sclR [p] * sclR r ≤ (matR [p]).a * (matR r).b + (matR [p]).b * (matR r).d
    cases hp : p.1
    · rw [(one_rung hp).1, (one_rung hp).2]
      obtain ⟨q, hq, hf⟩ := h
      rcases List.mem_cons.mp hq with rfl | hq
      · rw [hp] at hf
        cases hf
      · have := Int.mul_le_mul_of_nonneg_left (ih hr.tail ⟨q, hq, hf⟩) (show 0 ≤ p.2 by omega)
        dsimp only
        omega
    · rw [(one_rail hp).1, (one_rail hp).2]
      have := Int.mul_le_mul_of_nonneg_right o1 (show 0 ≤ (matR r).d by omega)
      dsimp only
      omega
theorem c_ge {r : List Pc} (hr : RowOk r) (h : ∃ p ∈ r, p.1 = false) : sclR r ≤ 12 * (matR r).c := by
  induction r with
  | nil =>
    obtain ⟨p, hp, _⟩ := h
    cases hp
  | cons p r ih =>
    obtain ⟨_, b1, c1, _⟩ := matR_ok hr.tail
    obtain ⟨a2, d2⟩ := scl_le hr.tail
    have s2 := scl_pos' hr.tail
    obtain ⟨o1, o2⟩ := hr.head
    rw [show p :: r = [p] ++ r from rfl, scl_app, mat_mul]
    show sclR [p] * sclR r ≤ 12 * ((matR [p]).c * (matR r).a + (matR [p]).d * (matR r).c)
    cases hp : p.1
    · rw [(one_rung hp).1, (one_rung hp).2]
      have h1 := Int.mul_le_mul_of_nonneg_right o2 (show 0 ≤ sclR r by omega)
      have h2 := Int.mul_nonneg (show 0 ≤ p.2 by omega) c1
      dsimp only
      omega
    · rw [(one_rail hp).1, (one_rail hp).2]
      obtain ⟨q, hq, hf⟩ := h
      rcases List.mem_cons.mp hq with rfl | hq
      · rw [hp] at hf
        cases hf
      · have := ih hr.tail ⟨q, hq, hf⟩
        dsimp only
        omega
/-- entries beside the scale -/
theorem ent_le {r : List Pc} (hr : RowOk r) : ∃ N : Int, N = 13 ^ r.length ∧ (matR r).a ≤ N * sclR r ∧ (matR r).b ≤ N * sclR r ∧ (matR r).c ≤ N * sclR r ∧ (matR r).d ≤ N * sclR r := by
  induction r with
  | nil => exact ⟨1, rfl, by decide, by decide, by decide, by decide⟩
  | cons p r ih =>
    obtain ⟨N, eN, h1, h2, h3, h4⟩ := ih hr.tail
    obtain ⟨a1, b1, c1, d1, _⟩ := matR_ok hr.tail
    obtain ⟨o1, o2⟩ := hr.head
    refine ⟨13 * N, by rw [eN, List.length_cons]; exact (Int.mul_comm _ _).trans (by rw [Int.pow_succ]), ?_⟩
    rw [show p :: r = [p] ++ r from rfl, scl_app, mat_mul]
    have key : ∀ x y M : Int, 0 ≤ x → 0 ≤ y → x ≤ M → y ≤ M → x + p.2 * y ≤ 13 * M := fun x y M x0 y0 hx hy => by
      have k1 := Int.mul_le_mul_of_nonneg_right o2 y0
      omega
    have key2 : ∀ x y M : Int, 0 ≤ x → 0 ≤ y → x ≤ M → y ≤ M → x + p.2 * y ≤ 13 * (p.2 * M) := fun x y M x0 y0 hx hy => by
      have k1 := Int.mul_le_mul_of_nonneg_left hy (show 0 ≤ p.2 by omega)
      have k2 := Int.mul_le_mul_of_nonneg_right o1 (show 0 ≤ M by omega)
      omega
    have key3 : ∀ x M : Int, 0 ≤ x → x ≤ M → p.2 * x ≤ 13 * (p.2 * M) := fun x M x0 hx => by
      have k1 := Int.mul_le_mul_of_nonneg_left hx (show 0 ≤ p.2 by omega)
      have k2 := Int.mul_nonneg (show 0 ≤ p.2 by omega) (show 0 ≤ M by omega)
      omega
    generalize eM : N * sclR r = M at h1 h2 h3 h4
    cases hp : p.1
    · rw [(one_rung hp).1, (one_rung hp).2]
      have e : 13 * N * (p.2 * sclR r) = 13 * (p.2 * M) := by rw [← eM]; grind
      rw [e]
      unfold Mx.mul
      dsimp only
      have q1 := key3 _ _ a1 h1
      have q2 := key3 _ _ b1 h2
      have q3 := key2 _ _ _ a1 c1 h1 h3
      have q4 := key2 _ _ _ b1 d1 h2 h4
      refine ⟨?_, ?_, ?_, ?_⟩ <;> omega
    · rw [(one_rail hp).1, (one_rail hp).2]
      have e : 13 * N * (1 * sclR r) = 13 * M := by rw [← eM]; grind
      rw [e]
      unfold Mx.mul
      dsimp only
      have q1 := key _ _ _ a1 c1 h1 h3
      have q2 := key _ _ _ b1 d1 h2 h4
      refine ⟨?_, ?_, ?_, ?_⟩ <;> omega
theorem ent4 {r : List Pc} (hr : RowOk r) (l4 : r.length ≤ 4) : (matR r).a ≤ 28561 * sclR r ∧ (matR r).b ≤ 28561 * sclR r ∧ (matR r).c ≤ 28561 * sclR r := by
  obtain ⟨N, eN, h1, h2, h3, _⟩ := ent_le hr
  have hN : N ≤ 28561 := by
    rw [eN]
    have : r.length = 0 ∨ r.length = 1 ∨ r.length = 2 ∨ r.length = 3 ∨ r.length = 4 := by omega
    rcases this with z | z | z | z | z <;> rw [z] <;> decide
  have := Int.mul_le_mul_of_nonneg_right hN (Int.le_of_lt (scl_pos' hr))
  omega
/-- one step of the denominators -/
theorem ratio {s p x y z N D : Int} (s0 : 0 ≤ s) (hp : 52 * s ≤ 25 * p) (y0 : 0 ≤ y) (N0 : 0 ≤ N) (e : z = p * y - s * s * x) (h : N * (s * x) ≤ D * y) : (52 * N - 25 * D) * (s * y) ≤ 25 * N * z := by
  have h1 := Int.mul_nonneg (Int.mul_nonneg N0 y0) (show 0 ≤ 25 * p - 52 * s by omega)
  have h2 := Int.mul_nonneg s0 (show 0 ≤ D * y - N * (s * x) by omega)
  have e2 : 25 * N * z - (52 * N - 25 * D) * (s * y) = N * y * (25 * p - 52 * s) + 25 * (s * (D * y - N * (s * x))) := by
    rw [e]
    grind
  omega
/-- the sum of a and d -/
theorem tr_ge {a b c d s : Int} (s0 : 0 < s) (ha : s ≤ a) (hd : s ≤ d) (hb : s ≤ b) (hc : s ≤ 12 * c) (det : a * d - b * c = s * s) : 52 * s ≤ 25 * (a + d) := by
  rcases Int.lt_or_le (25 * (a + d)) (52 * s) with z | z
  · have h1 := Int.mul_le_mul hb hc (Int.le_of_lt s0) (by omega)
    have h2 : (25 * (a + d)) * (25 * (a + d)) < (52 * s) * (52 * s) := by
      have := Int.mul_lt_mul z (Int.le_of_lt z) (by omega) (by omega)
      exact this
    have h3 : 0 ≤ (a - d) * (a - d) := by
      rcases Int.le_total 0 (a - d) with q | q
      · exact Int.mul_nonneg q q
      · exact Int.mul_nonneg_of_nonpos_of_nonpos q q
    have h4 := Int.mul_pos s0 s0
    have e1 : (25 * (a + d)) * (25 * (a + d)) = 625 * ((a - d) * (a - d)) + 2500 * (a * d) := by grind
    have e2 : (52 * s) * (52 * s) = 2704 * (s * s) := by grind
    have e3 : b * (12 * c) = 12 * (b * c) := by grind
    omega
  · exact z
end RL

namespace RL
/-- what of a row the bounds want -/
structure Quick (m : Mx) (s : Int) : Prop where
  s0 : 0 < s
  a1 : s ≤ m.a
  d1 : s ≤ m.d
  b1 : s ≤ m.b
  c1 : s ≤ 12 * m.c
  a2 : m.a ≤ 28561 * s
  b2 : m.b ≤ 28561 * s
  c2 : m.c ≤ 28561 * s
  det : m.a * m.d - m.b * m.c = s * s
  tr : 52 * s ≤ 25 * (m.a + m.d)
theorem quick {r : List Pc} (hr : RowOk r) (l4 : r.length ≤ 4) (h1 : ∃ p ∈ r, p.1 = true) (h2 : ∃ p ∈ r, p.1 = false) : Quick (matR r) (sclR r) := by
  have s0 := scl_pos' hr
  obtain ⟨a1, d1⟩ := scl_le hr
  have b1 := b_ge hr h1
  have c1 := c_ge hr h2
  obtain ⟨a2, b2, c2⟩ := ent4 hr l4
  exact ⟨s0, a1, d1, b1, c1, a2, b2, c2, matR_det r, tr_ge s0 a1 d1 b1 c1 (matR_det r)⟩
section
variable {m : Mx} {s : Int} {e : Int × Int}
theorem app_ge (q : Quick m s) (h : Pos2 e) : Pos2 (m.app e) ∧ s * e.2 ≤ (m.app e).2 ∧ 0 < (m.app e).2 := by
  obtain ⟨t0, u0, k⟩ := h
  have s0 := q.s0
  have a1 := q.a1; have b1 := q.b1; have c1 := q.c1; have d1 := q.d1
  have h1 := Int.mul_nonneg (show 0 ≤ m.a by omega) t0
  have h2 := Int.mul_nonneg (show 0 ≤ m.b by omega) u0
  have h3 := Int.mul_nonneg (show 0 ≤ m.c by omega) t0
  have h4 := Int.mul_le_mul_of_nonneg_right d1 u0
  have h5 := Int.mul_nonneg (show 0 ≤ s by omega) u0
  have p : 0 < m.c * e.1 + m.d * e.2 := by
    rcases k with k | k
    · have := Int.mul_pos (show 0 < m.c by omega) k
      omega
    · have := Int.mul_pos s0 k
      omega
  refine ⟨⟨?_, ?_, ?_⟩, ?_, ?_⟩ <;> unfold Mx.app <;> dsimp only <;> omega
theorem appN_ge (q : Quick m s) (h : Pos2 e) : ∀ n, Pos2 (appN m n e)
  | 0 => h
  | n + 1 => (app_ge q (appN_ge q h n)).1
theorem rec2 (q : Quick m s) (n : Nat) : (appN m (n + 2) e).2 = (m.a + m.d) * (appN m (n + 1) e).2 - s * s * (appN m n e).2 := by
  rw [appN_succ, appN_succ, ← q.det]
  unfold Mx.app
  dsimp only
  grind
theorem u5 (q : Quick m s) (h : Pos2 e) : 5 * (s * (appN m 4 e).2) ≤ 4 * (appN m 5 e).2 ∧ s * (appN m 1 e).2 ≤ (appN m 2 e).2 ∧ s * (appN m 2 e).2 ≤ (appN m 3 e).2 ∧ s * (appN m 3 e).2 ≤ (appN m 4 e).2 := by
  have s0 := Int.le_of_lt q.s0
  have y1 := (appN_ge q h 1).2.1
  have y2 := (appN_ge q h 2).2.1
  have y3 := (appN_ge q h 3).2.1
  have y4 := (appN_ge q h 4).2.1
  have r1 : 1 * (s * (appN m 0 e).2) ≤ 1 * (appN m 1 e).2 := by
    have := (app_ge q h).2.1
    rw [Int.one_mul, Int.one_mul]
    exact this
  have r2 := ratio s0 q.tr y1 (by decide) (show (appN m 2 e).2 = (m.a + m.d) * (appN m 1 e).2 - s * s * (appN m 0 e).2 from rec2 q 0) r1
  have r2' : 27 * (s * (appN m 1 e).2) ≤ 25 * (appN m 2 e).2 := by omega
  have r3 := ratio s0 q.tr y2 (by decide) (show (appN m 3 e).2 = (m.a + m.d) * (appN m 2 e).2 - s * s * (appN m 1 e).2 from rec2 q 1) r2'
  have r3' : 779 * (s * (appN m 2 e).2) ≤ 675 * (appN m 3 e).2 := by omega
  have r4 := ratio s0 q.tr y3 (by decide) (show (appN m 4 e).2 = (m.a + m.d) * (appN m 3 e).2 - s * s * (appN m 2 e).2 from rec2 q 2) r3'
  have r4' : 23633 * (s * (appN m 3 e).2) ≤ 19475 * (appN m 4 e).2 := by omega
  have r5 := ratio s0 q.tr y4 (by decide) (show (appN m 5 e).2 = (m.a + m.d) * (appN m 4 e).2 - s * s * (appN m 3 e).2 from rec2 q 3) r4'
  have z1 := Int.mul_nonneg s0 y1
  have z2 := Int.mul_nonneg s0 y2
  have z3 := Int.mul_nonneg s0 y3
  have z4 := Int.mul_nonneg s0 y4
  refine ⟨?_, ?_, ?_, ?_⟩ <;> omega
theorem u_step (q : Quick m s) (h : Pos2 e) : ∀ k : Nat, 5 * (s * (appN m (k + 4) e).2) ≤ 4 * (appN m (k + 5) e).2
  | 0 => (u5 q h).1
  | k + 1 => by
    have s0 := Int.le_of_lt q.s0
    have y := (appN_ge q h (k + 5)).2.1
    have r := ratio s0 q.tr y (by decide) (rec2 q (k + 4)) (u_step q h k)
    have z := Int.mul_nonneg s0 y
    show 5 * (s * (appN m (k + 5) e).2) ≤ 4 * (appN m (k + 6) e).2
    replace r : (52 * 5 - 25 * 4) * (s * (appN m (k + 5) e).2) ≤ 25 * 5 * (appN m (k + 6) e).2 := r
    omega
theorem u_far (q : Quick m s) (h : Pos2 e) : ∀ k : Nat, 5 ^ k * (s ^ (k + 3) * (appN m 1 e).2) ≤ 4 ^ k * (appN m (k + 4) e).2
  | 0 => by
    obtain ⟨_, h2, h3, h4⟩ := u5 q h
    have s0 := Int.le_of_lt q.s0
    have a := Int.mul_le_mul_of_nonneg_left h2 s0
    have a2 := Int.mul_le_mul_of_nonneg_left a s0
    have b := Int.mul_le_mul_of_nonneg_left h3 s0
    have e1 : s ^ (0 + 3) * (appN m 1 e).2 = s * (s * (s * (appN m 1 e).2)) := by
      rw [show s ^ (0 + 3) = s * s * s from by grind]
      grind
    rw [e1, Int.pow_zero, Int.pow_zero, Int.one_mul, Int.one_mul]
    show s * (s * (s * (appN m 1 e).2)) ≤ (appN m 4 e).2
    omega
  | k + 1 => by
    have s0 := Int.le_of_lt q.s0
    have i := u_far q h k
    have st := u_step q h k
    have i2 := Int.mul_le_mul_of_nonneg_left (Int.mul_le_mul_of_nonneg_left i s0) (show (0 : Int) ≤ 5 by decide)
    have p4 : (0 : Int) ≤ 4 ^ k := Int.le_of_lt (Int.pow_pos (by decide))
    have st2 := Int.mul_le_mul_of_nonneg_left st p4
    have e1 : (5 : Int) ^ (k + 1) * (s ^ (k + 1 + 3) * (appN m 1 e).2) = 5 * (s * (5 ^ k * (s ^ (k + 3) * (appN m 1 e).2))) := by
      rw [Int.pow_succ, show k + 1 + 3 = (k + 3) + 1 from by omega, Int.pow_succ s]
      grind
    have e2 : (4 : Int) ^ (k + 1) * (appN m (k + 1 + 4) e).2 = 4 ^ k * (4 * (appN m (k + 5) e).2) := by
      rw [Int.pow_succ, show k + 1 + 4 = k + 5 from by omega]
      grind
    have e3 : (4 : Int) ^ k * (5 * (s * (appN m (k + 4) e).2)) = 5 * (s * (4 ^ k * (appN m (k + 4) e).2)) := by grind
    rw [e1, e2]
    rw [e3] at st2
    exact Int.le_trans i2 st2
theorem go_far (q : Quick m s) : ∀ n : Nat, goV m (appN m n e) = s ^ n * s ^ n * goV m e
  | 0 => by rw [Int.pow_zero]; show goV m e = _; omega
  | n + 1 => by
    rw [appN_succ, goV_app, go_far q n, q.det, Int.pow_succ]
    grind
/-- how far the load lies from the limit, beside the first denominator -/
theorem go_first (q : Quick m s) (h : Pos2 e) : s * goV m e ≤ 342732 * ((m.app e).2 * (m.app e).2) ∧ -(s * goV m e) ≤ 12 * ((m.app e).2 * (m.app e).2) := by
  obtain ⟨t0, u0, _⟩ := h
  have s0 := Int.le_of_lt q.s0
  have a1 := q.a1; have b1 := q.b1; have c1 := q.c1; have d1 := q.d1; have a2 := q.a2; have b2 := q.b2
  have X0 := Int.mul_nonneg (show 0 ≤ m.c by omega) t0
  have Y0 := Int.mul_nonneg (show 0 ≤ m.d by omega) u0
  have st : s * e.1 ≤ 12 * (m.c * e.1) := by
    have := Int.mul_le_mul_of_nonneg_right c1 t0
    grind
  have su : s * e.2 ≤ m.d * e.2 := Int.mul_le_mul_of_nonneg_right d1 u0
  have st0 := Int.mul_nonneg s0 t0
  have su0 := Int.mul_nonneg s0 u0
  have p1 := Int.mul_le_mul st su su0 (by omega)
  have p2 := Int.mul_le_mul su su su0 (by omega)
  have p3 := Int.mul_le_mul_of_nonneg_right st X0
  have p4 := Int.mul_le_mul_of_nonneg_right st Y0
  -- a t u and b u u
  have tu0 := Int.mul_nonneg st0 u0
  have uu0 := Int.mul_nonneg su0 u0
  have p5 := Int.mul_le_mul_of_nonneg_right a2 tu0
  have p6 := Int.mul_le_mul_of_nonneg_right b2 uu0
  have n1 := Int.mul_nonneg (show 0 ≤ m.a by omega) tu0
  have n2 := Int.mul_nonneg (show 0 ≤ m.b by omega) uu0
  have XX := Int.mul_nonneg X0 X0
  have XY := Int.mul_nonneg X0 Y0
  have YY := Int.mul_nonneg Y0 Y0
  have n3 := Int.mul_nonneg st0 X0
  have n4 := Int.mul_nonneg st0 Y0
  have eg : s * goV m e = m.a * (s * e.1 * e.2) + m.b * (s * e.2 * e.2) - (s * e.1) * (m.c * e.1) - (s * e.1) * (m.d * e.2) := by
    unfold goV Mx.app
    dsimp only
    grind
  have eu : (m.app e).2 * (m.app e).2 = (m.c * e.1) * (m.c * e.1) + 2 * ((m.c * e.1) * (m.d * e.2)) + (m.d * e.2) * (m.d * e.2) := by
    unfold Mx.app
    dsimp only
    grind
  have e5 : 28561 * s * (s * e.1 * e.2) = 28561 * (s * e.1 * (s * e.2)) := by grind
  have e6 : 28561 * s * (s * e.2 * e.2) = 28561 * (s * e.2 * (s * e.2)) := by grind
  have e7 : 12 * (m.c * e.1) * (m.d * e.2) = 12 * ((m.c * e.1) * (m.d * e.2)) := by grind
  have e8 : 12 * (m.c * e.1) * (m.c * e.1) = 12 * ((m.c * e.1) * (m.c * e.1)) := by grind
  rw [eg, eu]
  rw [e5] at p5
  rw [e6] at p6
  rw [e7] at p1 p4
  rw [e8] at p3
  constructor <;> omega
/-- near the limit, behind seventy sections -/
theorem near70 (q : Quick m s) (h : Pos2 e) : 0 < (appN m 70 e).2 ∧ goV m (1000000 * (appN m 70 e).1 + (appN m 70 e).2, 1000000 * (appN m 70 e).2) ≤ 0 ∧ 0 ≤ goV m (1000000 * (appN m 70 e).1 - (appN m 70 e).2, 1000000 * (appN m 70 e).2) := by
  have s0 := Int.le_of_lt q.s0
  have far := u_far q h 66
  have g1 : goV m (appN m 70 e) = s ^ 70 * s ^ 70 * goV m e := go_far q 70
  have U0 := (appN_ge q h 70).2.1
  have k69 := u_step q h 65
  have k70 := u_step q h 66
  have rr : (appN m 71 e).2 = (m.a + m.d) * (appN m 70 e).2 - s * s * (appN m 69 e).2 := rec2 q 69
  have ee : (appN m 71 e).2 = m.c * (appN m 70 e).1 + m.d * (appN m 70 e).2 := rfl
  obtain ⟨f1, f2⟩ := go_first q h
  have u1 := (app_ge q h).2.2
  replace far : 5 ^ 66 * (s ^ 69 * (m.app e).2) ≤ 4 ^ 66 * (appN m 70 e).2 := far
  replace k69 : 5 * (s * (appN m 69 e).2) ≤ 4 * (appN m 70 e).2 := k69
  replace k70 : 5 * (s * (appN m 70 e).2) ≤ 4 * (appN m 71 e).2 := k70
  have W0 : 0 < s ^ 69 := Int.pow_pos q.s0
  have e70 : s ^ 70 = s ^ 69 * s := Int.pow_succ ..
  rw [e70] at g1
  have c2 := q.c2
  have c0 : 0 ≤ m.c := by have := q.c1; have := q.s0; omega
  generalize s ^ 69 = W at *
  generalize (m.app e).2 = u at *
  generalize goV m e = g at *
  have eG : goV m (appN m 70 e) = (m.a * (appN m 70 e).1 + m.b * (appN m 70 e).2) * (appN m 70 e).2 - (appN m 70 e).1 * (m.c * (appN m 70 e).1 + m.d * (appN m 70 e).2) := rfl
  generalize (appN m 71 e).2 = V at *
  generalize (appN m 69 e).2 = Y at *
  have eA : goV m (1000000 * (appN m 70 e).1 + (appN m 70 e).2, 1000000 * (appN m 70 e).2) = 1000000000000 * goV m (appN m 70 e) - 1000000 * ((appN m 70 e).2 * (2 * V - (m.a + m.d) * (appN m 70 e).2)) - m.c * ((appN m 70 e).2 * (appN m 70 e).2) := by
    rw [ee]
    unfold goV Mx.app
    dsimp only
    grind
  have eB : goV m (1000000 * (appN m 70 e).1 - (appN m 70 e).2, 1000000 * (appN m 70 e).2) = 1000000000000 * goV m (appN m 70 e) + 1000000 * ((appN m 70 e).2 * (2 * V - (m.a + m.d) * (appN m 70 e).2)) - m.c * ((appN m 70 e).2 * (appN m 70 e).2) := by
    rw [ee]
    unfold goV Mx.app
    dsimp only
    grind
  rw [eA, eB, g1]
  clear eA eB eG g1 ee
  generalize (appN m 70 e).2 = U at *
  have Wu := Int.mul_pos W0 u1
  -- the slope
  have Z : 9 * (s * U) ≤ 20 * (2 * V - (m.a + m.d) * U) := by
    have := Int.mul_le_mul_of_nonneg_left k69 s0
    have e1 : s * (5 * (s * Y)) = 5 * (s * s * Y) := by grind
    have e2 : s * (4 * U) = 4 * (s * U) := by grind
    omega
  have ZU := Int.mul_le_mul_of_nonneg_left Z U0
  have eZ : U * (20 * (2 * V - (m.a + m.d) * U)) = 20 * (U * (2 * V - (m.a + m.d) * U)) := by grind
  have eS : U * (9 * (s * U)) = 9 * (s * (U * U)) := by grind
  rw [eZ, eS] at ZU
  generalize U * (2 * V - (m.a + m.d) * U) = ZZ at *
  have UU := Int.mul_nonneg U0 U0
  have cU := Int.mul_le_mul_of_nonneg_right c2 UU
  have cU0 := Int.mul_nonneg c0 UU
  have eC : 28561 * s * (U * U) = 28561 * (s * (U * U)) := by grind
  rw [eC] at cU
  -- the square of the denominator
  have p5 : (0 : Int) ≤ 5 ^ 66 * (W * u) := Int.mul_nonneg (by decide) (Int.le_of_lt Wu)
  have sq := Int.mul_le_mul far far p5 (Int.le_trans p5 far)
  have eL : 5 ^ 66 * (W * u) * (5 ^ 66 * (W * u)) = 5 ^ 132 * (W * W * (u * u)) := by grind
  have eR : 4 ^ 66 * U * (4 ^ 66 * U) = 4 ^ 132 * (U * U) := by grind
  rw [eL, eR] at sq
  have ssq := Int.mul_le_mul_of_nonneg_left sq s0
  have WW := Int.mul_nonneg (Int.le_of_lt W0) (Int.le_of_lt W0)
  have sWW := Int.mul_nonneg s0 WW
  have m1 := Int.mul_le_mul_of_nonneg_left f1 sWW
  have m2 := Int.mul_le_mul_of_nonneg_left f2 sWW
  have e3 : s * (W * W) * (s * g) = W * s * (W * s) * g := by grind
  have e4 : s * (W * W) * -(s * g) = - (W * s * (W * s) * g) := by grind
  have e5 : s * (W * W) * (342732 * (u * u)) = 342732 * (s * (W * W * (u * u))) := by grind
  have e6 : s * (W * W) * (12 * (u * u)) = 12 * (s * (W * W * (u * u))) := by grind
  have e7 : s * (5 ^ 132 * (W * W * (u * u))) = 5 ^ 132 * (s * (W * W * (u * u))) := by grind
  have e8 : s * (4 ^ 132 * (U * U)) = 4 ^ 132 * (s * (U * U)) := by grind
  rw [e3, e5] at m1
  rw [e4, e6] at m2
  rw [e7, e8] at ssq
  have n1 := Int.mul_nonneg s0 UU
  have n2 := Int.mul_nonneg s0 (Int.mul_nonneg WW (Int.mul_nonneg (Int.le_of_lt u1) (Int.le_of_lt u1)))
  have Up : 0 < U := by
    rcases Int.lt_or_le 0 U with z | z
    · exact z
    · have : U = 0 := by omega
      rw [this] at far
      have : (0 : Int) < 5 ^ 66 * (W * u) := Int.mul_pos (by decide) Wu
      omega
  generalize W * s * (W * s) * g = G at *
  generalize s * (W * W * (u * u)) = A at *
  generalize s * (U * U) = B at *
  generalize m.c * (U * U) = Cc at *
  clear e3 e4 e5 e6 e7 e8 eL eR eZ eS eC sq far p5 f1 f2 k69 k70 rr
  refine ⟨Up, ?_, ?_⟩ <;> omega
end
end RL

namespace RL
theorem sg_eq {x y : Int} (h1 : 0 < x ↔ 0 < y) (h2 : x = 0 ↔ y = 0) : sg x = sg y := by
  unfold sg
  split
  · rw [if_pos (h1.mp (by assumption))]
  · rename_i n1
    rw [if_neg (fun z => n1 (h1.mpr z))]
    split
    · rw [if_pos (by have := mt h2.mpr (by omega); have := mt h1.mpr n1; omega)]
    · rw [if_neg (by have := h2.mp (by omega); omega)]
theorem side_go {r : List Pc} {s : Int} (q : Quick (matR r) s) {e : Int × Int} (h : Pos2 e) : side (eqL r).1 (eqL r).2.1 (eqL r).2.2 e.1 e.2 = sg (goV (matR r) e) := by
  have s0 := q.s0
  have b1 := q.b1
  have c1 := q.c1
  obtain ⟨t0, u0, k⟩ := h
  have N := parts_nrm (a := (matR r).c) (b := (matR r).d - (matR r).a) (c := (matR r).b) (.inr ⟨by omega, by omega⟩)
  unfold eqL
  rw [if_neg (by omega)]
  unfold side
  split
  · rename_i z
    have t1 : 0 < e.1 := by omega
    have e1 : goV (matR r) e = -(e.1 * ((matR r).c * e.1)) := by
      unfold goV Mx.app
      dsimp only
      rw [z]
      grind
    have := Int.mul_pos t1 (Int.mul_pos (show 0 < (matR r).c by omega) t1)
    rw [e1]
    unfold sg
    rw [if_neg (by omega), if_pos (by omega)]
  · obtain ⟨n1, n2⟩ := N.sgn e.1 e.2 t0 (by omega)
    have e1 : goV (matR r) e = -((matR r).c * e.1 * e.1 + ((matR r).d - (matR r).a) * e.1 * e.2 - (matR r).b * e.2 * e.2) := by
      unfold goV Mx.app
      dsimp only
      grind
    rw [e1]
    refine sg_eq ?_ ?_ <;> omega
theorem near_low {r : List Pc} {s : Int} (q : Quick (matR r) s) {e f : Int × Int} (h : Pos2 e) (ef : f = low (appN (matR r) 70 e)) :
    0 < f.2 ∧ ¬ 0 < side (eqL r).1 (eqL r).2.1 (eqL r).2.2 (1000000 * f.1 + f.2) (1000000 * f.2) ∧ (0 ≤ 1000000 * f.1 - f.2 → 0 ≤ side (eqL r).1 (eqL r).2.1 (eqL r).2.2 (1000000 * f.1 - f.2) (1000000 * f.2)) := by
  obtain ⟨u0, h1, h2⟩ := near70 q h
  have p := appN_ge q h 70
  have pl := low_pos p
  have e1 := low_is p
  rw [← ef] at e1 pl
  have k0 := gc_pos2 p
  generalize gc (appN (matR r) 70 e).1 (appN (matR r) 70 e).2 = k at *
  rw [e1] at u0 h1 h2
  obtain ⟨f0, g0, _⟩ := pl
  replace u0 : 0 < k * f.2 := u0
  have fp : 0 < f.2 := by
    rcases Int.lt_or_le 0 f.2 with z | z
    · exact z
    · have := Int.mul_nonpos_of_nonneg_of_nonpos (Int.le_of_lt k0) z
      omega
  have a1 : (1000000 * (sc k f).1 + (sc k f).2, 1000000 * (sc k f).2) = sc k (1000000 * f.1 + f.2, 1000000 * f.2) := by
    unfold sc
    ext <;> dsimp only <;> grind
  have a2 : (1000000 * (sc k f).1 - (sc k f).2, 1000000 * (sc k f).2) = sc k (1000000 * f.1 - f.2, 1000000 * f.2) := by
    unfold sc
    ext <;> dsimp only <;> grind
  rw [a1, goV_sc] at h1
  rw [a2, goV_sc] at h2
  have kk := Int.mul_pos k0 k0
  refine ⟨fp, ?_, fun z => ?_⟩
  · rw [side_go q (e := (1000000 * f.1 + f.2, 1000000 * f.2)) ⟨by show 0 ≤ 1000000 * f.1 + f.2; omega, by show 0 ≤ 1000000 * f.2; omega, .inr (by show 0 < 1000000 * f.2; omega)⟩]
    unfold sg
    split
    · rename_i z
      have := Int.mul_pos kk z
      omega
    · split <;> omega
  · rw [side_go q (e := (1000000 * f.1 - f.2, 1000000 * f.2)) ⟨z, by show 0 ≤ 1000000 * f.2; omega, .inr (by show 0 < 1000000 * f.2; omega)⟩]
    unfold sg
    split
    · decide
    · split
      · rename_i _ z2
        have := Int.mul_neg_of_pos_of_neg kk z2
        omega
      · decide
theorem low_frt {r : List Pc} {e : Int × Int} (hr : RowOk r) (h : Pos2 e) : low (frtR r e) = low ((matR r).app e) := by
  obtain ⟨k, hk, ek⟩ := frtR_act hr h
  rw [mat_app, ek, low_sc hk]
theorem walk_go {r : List Pc} {e : Int × Int} (hr : RowOk r) (h : Pos2 e) : sg (goV (matR r) (low (frtR r e))) = sg (goV (matR r) e) ∧ Pos2 (low (frtR r e)) := by
  have p := app_pos hr h
  rw [low_frt hr h]
  exact ⟨by rw [goV_low p]; exact goV_appN hr e 1, low_pos p⟩
theorem walk_sm {r : List Pc} {e : Int × Int} {k : Nat} (hr : RowOk r) (l8 : r.length ≤ 8) (h : Pos2 e) (h1 : Sm k e.1) (h2 : Sm k e.2) : Sm (k + 31) (low (frtR r e)).1 ∧ Sm (k + 31) (low (frtR r e)).2 := by
  rw [low_frt hr h]
  obtain ⟨a, b⟩ := appN_sm hr l8 h1 h2 1
  exact low_sm (app_pos hr h) a b
theorem beside1 {l w : Int} (h : 1 ≤ l) (hw : 0 ≤ w) : side 0 l w (3 * w + 1) (3 * l) = -1 ∧ side 0 l w (3 * w) (3 * l) = 0 := by
  have := Int.mul_pos (show 0 < l by omega) (show 0 < l by omega)
  have e1 : -(0 * (3 * w + 1) * (3 * w + 1) + l * (3 * w + 1) * (3 * l) - w * (3 * l) * (3 * l)) = -(3 * (l * l)) := by grind
  have e2 : -(0 * (3 * w) * (3 * w) + l * (3 * w) * (3 * l) - w * (3 * l) * (3 * l)) = 0 := by grind
  unfold side
  rw [if_neg (by omega), if_neg (by omega), e1, e2]
  unfold sg
  rw [if_neg (by omega), if_pos (by omega)]
  exact ⟨rfl, rfl⟩
end RL

/-! Stars and rings tell patterns apart; stars of patterns joined. -/
namespace RL
theorem low_ratio {x s y s' : Int} (hx : Pos2 (x, s)) (hy : Pos2 (y, s')) (h : low (x, s) = low (y, s')) : x * s' = y * s := by
  have e1 := low_is hx
  have e2 := low_is hy
  rw [← h] at e2
  have a1 : x = gc x s * (low (x, s)).1 := congrArg Prod.fst e1
  have a2 : s = gc x s * (low (x, s)).2 := congrArg Prod.snd e1
  have b1 : y = gc y s' * (low (x, s)).1 := congrArg Prod.fst e2
  have b2 : s' = gc y s' * (low (x, s)).2 := congrArg Prod.snd e2
  generalize gc x s = g at *
  generalize gc y s' = g' at *
  generalize (low (x, s)).1 = u at *
  generalize (low (x, s)).2 = v at *
  subst a1 a2 b1 b2
  grind
theorem opt_ratio {w : Bool} {k k' p q p' q' : Int} (hk : 0 < k) (hk' : 0 < k') (hp : k * p = k' * p') (hq : k * q = k' * q') : opt w p q = opt w p' q' := by
  have z : ∀ {u v : Int}, k * u = k' * v → (u = 0 ↔ v = 0) := fun {u v} h => by
    constructor
    · intro e
      rw [e, Int.mul_zero] at h
      exact (Int.mul_eq_zero.mp h.symm).resolve_left (by omega)
    · intro e
      rw [e, Int.mul_zero] at h
      exact (Int.mul_eq_zero.mp h).resolve_left (by omega)
  have e : low (p, q) = low (p', q') := by
    rw [← low_sc hk (p, q), ← low_sc hk' (p', q')]
    unfold sc
    dsimp only
    rw [hp, hq]
  unfold opt
  rw [e]
  simp only [z hp, z hq]
theorem low1 {k k' p q p' q' : Int} (hk : 0 < k) (hk' : 0 < k') (hp : k * p = k' * p') (hq : k * q = k' * q') : low (p, q) = low (p', q') := by
  rw [← low_sc hk (p, q), ← low_sc hk' (p', q')]
  unfold sc
  dsimp only
  rw [hp, hq]
theorem four_ratio {r r' : List Pc} (hr : RowOk r) (hr' : RowOk r') (h : fourOf r = fourOf r') : sclR r' * (matR r).a = sclR r * (matR r').a ∧ sclR r' * (matR r).b = sclR r * (matR r').b ∧ sclR r' * (matR r).c = sclR r * (matR r').c ∧ sclR r' * (matR r).d = sclR r * (matR r').d := by
  have s0 := scl_pos' hr
  have s1 := scl_pos' hr'
  obtain ⟨a, b, c, d, _⟩ := matR_ok hr
  obtain ⟨a', b', c', d', _⟩ := matR_ok hr'
  have P : ∀ {x s : Int}, 0 ≤ x → 0 < s → Pos2 (x, s) := fun h1 h2 => ⟨h1, Int.le_of_lt h2, .inr h2⟩
  have k1 := congrArg (fun z => z.1) h
  have k2 := congrArg (fun z => z.2.1) h
  have k3 := congrArg (fun z => z.2.2.1) h
  have k4 := congrArg (fun z => z.2.2.2) h
  have f1 := low_ratio (P a s0) (P a' s1) k1
  have f2 := low_ratio (P b s0) (P b' s1) k2
  have f3 := low_ratio (P c s0) (P c' s1) k3
  have f4 := low_ratio (P d s0) (P d' s1) k4
  refine ⟨?_, ?_, ?_, ?_⟩ <;> grind
theorem star_four {r r' : List Pc} (hr : RowOk r) (hr' : RowOk r') (h : fourOf r = fourOf r') : starR r = starR r' ∧ ringR r = ringR r' := by
  obtain ⟨ea, eb, ec, ed⟩ := four_ratio hr hr' h
  have s0 := scl_pos' hr
  have s1 := scl_pos' hr'
  have es : sclR r' * sclR r = sclR r * sclR r' := Int.mul_comm ..
  have ea' : sclR r' * ((matR r).a - sclR r) = sclR r * ((matR r').a - sclR r') := by rw [Int.mul_sub, Int.mul_sub, ea, es]
  have ed' : sclR r' * ((matR r).d - sclR r) = sclR r * ((matR r').d - sclR r') := by rw [Int.mul_sub, Int.mul_sub, ed, es]
  have z : ∀ {u v : Int}, sclR r' * u = sclR r * v → (u = 0 ↔ v = 0) := fun {u v} h => by
    constructor
    · intro e
      rw [e, Int.mul_zero] at h
      exact (Int.mul_eq_zero.mp h.symm).resolve_left (by omega)
    · intro e
      rw [e, Int.mul_zero] at h
      exact (Int.mul_eq_zero.mp h).resolve_left (by omega)
  constructor
  · unfold starR
    by_cases c0 : (matR r).c = 0
    · rw [if_pos c0, if_pos ((z ec).mp c0), low1 s1 s0 eb es]
    · rw [if_neg c0, if_neg (fun q => c0 ((z ec).mpr q)), opt_ratio s1 s0 ea' ec, opt_ratio s1 s0 es ec, opt_ratio s1 s0 ed' ec]
  · unfold ringR
    by_cases b0 : (matR r).b = 0
    · rw [if_pos b0, if_pos ((z eb).mp b0), low1 s1 s0 es ec]
    · rw [if_neg b0, if_neg (fun q => b0 ((z eb).mpr q)), opt_ratio s1 s0 eb ed', opt_ratio s1 s0 eb es, opt_ratio s1 s0 eb ea']
theorem shows_eq {r r' : List Pc} (hr : RowOk r) (hr' : RowOk r') (h : ∀ e, Pos2 e → low e = e → low (frtR r e) = low (frtR r' e)) : fourOf r = fourOf r' := by
  have p : ∀ e, Pos2 e → low e = e → low ((matR r).app e) = low ((matR r').app e) := fun e he hl => by
    rw [← low_frt hr he, ← low_frt hr' he, h e he hl]
  exact shows_four hr hr' (p _ ⟨by decide, by decide, .inr (by decide)⟩ (by decide)) (p _ ⟨by decide, by decide, .inr (by decide)⟩ (by decide)) (p _ ⟨by decide, by decide, .inl (by decide)⟩ (by decide))
theorem star_iff {r r' : List Pc} (hr : RowOk r) (hr' : RowOk r') (h1 : 1 ≤ r.length) (h1' : 1 ≤ r'.length) : starR r = starR r' ↔ fourOf r = fourOf r' :=
  ⟨fun h => shows_eq hr hr' fun e he hl => by rw [← star_shows hr h1 he hl, ← star_shows hr' h1' he hl, h], fun h => (star_four hr hr' h).1⟩
theorem ring_iff {r r' : List Pc} (hr : RowOk r) (hr' : RowOk r') (h1 : 1 ≤ r.length) (h1' : 1 ≤ r'.length) : ringR r = ringR r' ↔ fourOf r = fourOf r' :=
  ⟨fun h => shows_eq hr hr' fun e he hl => by rw [← ring_shows hr h1 he hl, ← ring_shows hr' h1' he hl, h], fun h => (star_four hr hr' h).2⟩
theorem star_join {f b : List Pc} (hf : RowOk f) (hb : RowOk b) (f1 : 1 ≤ f.length) (b1 : 1 ≤ b.length) {e : Int × Int} (he : Pos2 e) (hl : low e = e) : frFR (starR (f ++ b)) e = frFR (starR f ++ starR b) e ∧ frFR (ringR f ++ starR b) e = frFR (starR (f ++ b)) e := by
  have p : Pos2 (low (frtR b e)) := low_pos (frtR_pos hb he)
  have l : low (low (frtR b e)) = low (frtR b e) := low_low (frtR_pos hb he)
  have a : frFR (starR (f ++ b)) e = low (frtR f (low (frtR b e))) := by
    rw [star_shows (hf.app hb) (by rw [List.length_append]; omega) he hl, low_frt (hf.app hb) he, shows_two hf hb he]
  rw [frFR_app, frFR_app, star_shows hb b1 he hl, star_shows hf f1 p l, ring_shows hf f1 p l, a]
  exact ⟨rfl, rfl⟩
/-- what halving finds: the least number at which the test fails, if it fails from there on -/
theorem bis_least {P : Int → Bool} (hP : ∀ x y : Int, x ≤ y → P y = true → P x = true) : ∀ (n : Nat) (lo hi : Int), hi - lo ≤ n → lo ≤ hi → (P hi = false) → P (bis P n lo hi) = false ∧ ∀ z, lo ≤ z → z < bis P n lo hi → P z = true
  | 0, lo, hi, h, l, f => by
    have : lo = hi := by omega
    subst this
    refine ⟨f, fun z h1 h2 => ?_⟩
    have h2 : z < lo := h2
    omega
  | n + 1, lo, hi, h, l, f => by
    unfold bis
    split
    · split
      · rename_i p
        obtain ⟨g1, g2⟩ := bis_least hP n ((lo + hi) / 2 + 1) hi (by omega) (by omega) f
        refine ⟨g1, fun z h1 h2 => ?_⟩
        rcases Int.lt_or_le ((lo + hi) / 2) z with q | q
        · exact g2 z (by omega) h2
        · exact hP _ _ q p
      · rename_i p
        exact bis_least hP n lo ((lo + hi) / 2) (by omega) (by omega) (by simpa using p)
    · have : lo = hi := by omega
      subst this
      exact ⟨f, fun z h1 h2 => by omega⟩
theorem bisR_least {P : Int → Bool} (hP : ∀ x y : Int, x ≤ y → P y = true → P x = true) {lo hi : Int} (l : lo ≤ hi) (f : P hi = false) : P (bisR P lo hi) = false ∧ ∀ z, lo ≤ z → z < bisR P lo hi → P z = true :=
  bis_least hP _ lo hi (by omega) l f
end RL

/-! Patterns that never show more than others: the sign of a parabola from 0 on. -/
namespace RL
def sgn (n : Int) : Int := if n > 0 then 1 else if n < 0 then -1 else 0
theorem sgn_lt {n : Int} : sgn n < 0 ↔ n < 0 := by
  unfold sgn
  split
  · omega
  · split <;> omega
theorem sgn_gt {n : Int} : sgn n > 0 ↔ n > 0 := by
  unfold sgn
  split
  · omega
  · split <;> omega
theorem sgn_ne {n : Int} : (sgn n != 0) = true ↔ n ≠ 0 := by
  unfold sgn
  split
  · simp; omega
  · split
    · simp; omega
    · simp; omega
def qS (m n : Mx) : Int := m.a * n.c - n.a * m.c
def qL (m n : Mx) : Int := m.a * n.d + m.b * n.c - n.a * m.d - n.b * m.c
def qW (m n : Mx) : Int := m.b * n.d - n.b * m.d
def qv (S L W : Int) (e : Int × Int) : Int := S * e.1 * e.1 + L * e.1 * e.2 + W * e.2 * e.2
def farS (S L W : Int) : Int := if (sgn S != 0) = true then sgn S else if (sgn L != 0) = true then sgn L else sgn W
theorem far_lt {S L W : Int} : farS S L W < 0 ↔ S < 0 ∨ (S = 0 ∧ (L < 0 ∨ (L = 0 ∧ W < 0))) := by
  unfold farS
  by_cases h : S = 0
  · rw [if_neg (fun z => sgn_ne.mp z h)]
    by_cases h' : L = 0
    · rw [if_neg (fun z => sgn_ne.mp z h'), sgn_lt]
      omega
    · rw [if_pos (sgn_ne.mpr h'), sgn_lt]
      omega
  · rw [if_pos (sgn_ne.mpr h), sgn_lt]
    omega
def nbB (S L W : Int) : Bool := decide (¬ (W < 0 ∨ farS S L W < 0) ∧ (S ≤ 0 ∨ L ≥ 0 ∨ L * L ≤ 4 * S * W))
theorem nb_all {S L W : Int} (h : nbB S L W = true) {e : Int × Int} (h1 : 0 ≤ e.1) (h2 : 0 ≤ e.2) : 0 ≤ qv S L W e := by
  have h := of_decide_eq_true h
  rw [far_lt] at h
  obtain ⟨t, b⟩ := e
  replace h1 : 0 ≤ t := h1
  replace h2 : 0 ≤ b := h2
  show 0 ≤ S * t * t + L * t * b + W * b * b
  have tt := Int.mul_nonneg h1 h1
  have tb := Int.mul_nonneg h1 h2
  have bb := Int.mul_nonneg h2 h2
  have w0 : 0 ≤ W * b * b := by
    rw [Int.mul_assoc]
    exact Int.mul_nonneg (by omega) bb
  rcases Int.lt_or_le 0 S with s | s
  · have s0 : 0 ≤ S * t * t := by
      rw [Int.mul_assoc]
      exact Int.mul_nonneg (by omega) tt
    rcases Int.lt_or_le L 0 with l | l
    · have k : L * L ≤ 4 * S * W := by omega
      have n1 := sq_nn (2 * S * t + L * b)
      have n2 := Int.mul_nonneg (show 0 ≤ 4 * S * W - L * L by omega) bb
      have e : 4 * S * (S * t * t + L * t * b + W * b * b) = (2 * S * t + L * b) * (2 * S * t + L * b) + (4 * S * W - L * L) * (b * b) := by grind
      rcases Int.lt_or_le (S * t * t + L * t * b + W * b * b) 0 with z | z
      · have := Int.mul_pos (show 0 < 4 * S by omega) (show 0 < -(S * t * t + L * t * b + W * b * b) by omega)
        have e2 : 4 * S * -(S * t * t + L * t * b + W * b * b) = -(4 * S * (S * t * t + L * t * b + W * b * b)) := by grind
        omega
      · exact z
    · have : 0 ≤ L * t * b := by
        rw [Int.mul_assoc]
        exact Int.mul_nonneg l tb
      omega
  · have s0 : S = 0 := by omega
    subst s0
    have l : 0 ≤ L := by omega
    have : 0 ≤ L * t * b := by
      rw [Int.mul_assoc]
      exact Int.mul_nonneg l tb
    rw [Int.zero_mul, Int.zero_mul]
    omega
/-- the loads that the law asks -/
def endsE (S L W : Int) : List (Int × Int) := [(0, 1), (1, 0)] ++ (if S ≠ 0 ∧ L ≠ 0 then [low ((L.natAbs : Int), 2 * (S.natAbs : Int))] else []) ++ (if L ≠ 0 then [low ((W.natAbs : Int) + 1, (L.natAbs : Int))] else [])
theorem qv_sc (S L W k : Int) (e : Int × Int) : qv S L W (sc k e) = k * k * qv S L W e := by
  unfold qv sc
  dsimp
  grind
theorem qv_low {S L W : Int} {e : Int × Int} (h : Pos2 e) : qv S L W (low e) < 0 ↔ qv S L W e < 0 := by
  have g := gc_pos2 h
  have e1 : qv S L W e = gc e.1 e.2 * gc e.1 e.2 * qv S L W (low e) := by
    rw [← qv_sc, ← low_is h]
  rw [e1]
  have gg := Int.mul_pos g g
  constructor
  · intro z
    have := Int.mul_pos gg (show 0 < -qv S L W (low e) by omega)
    have e2 : gc e.1 e.2 * gc e.1 e.2 * -qv S L W (low e) = -(gc e.1 e.2 * gc e.1 e.2 * qv S L W (low e)) := by grind
    omega
  · intro z
    rcases Int.lt_or_le (qv S L W (low e)) 0 with y | y
    · exact y
    · have := Int.mul_nonneg (Int.le_of_lt gg) y
      omega
/-- the place where a parabola that comes below 0 does so -/
def lowE (S L W : Int) : Int × Int := if W < 0 then (0, 1) else if S < 0 then (1, 0) else if S = 0 then (W - L, -L) else (-L, 2 * S)
theorem nb_not {S L W : Int} (h : nbB S L W = false) : W < 0 ∨ S < 0 ∨ (S = 0 ∧ L < 0 ∧ 0 ≤ W) ∨ (0 < S ∧ L < 0 ∧ 0 ≤ W ∧ 4 * S * W < L * L) := by
  have h := of_decide_eq_false h
  rw [far_lt] at h
  omega
theorem q_two {S L W : Int} (h : S = 0 ∧ L < 0 ∧ 0 ≤ W) : qv S L W (W + 1, -L) < 0 ∧ qv S L W (W - L, -L) < 0 := by
  obtain ⟨rfl, l, w⟩ := h
  have n1 := Int.mul_pos (show 0 < -L by omega) (show 0 < -L by omega)
  have n2 := Int.mul_pos n1 (show 0 < -L by omega)
  unfold qv
  dsimp
  have e1 : (0 : Int) * (W + 1) * (W + 1) + L * (W + 1) * -L + W * -L * -L = -(-L * -L) := by grind
  have e2 : (0 : Int) * (W - L) * (W - L) + L * (W - L) * -L + W * -L * -L = -(-L * -L * -L) := by grind
  omega
theorem q_three {S L W : Int} (h : 0 < S ∧ L < 0 ∧ 0 ≤ W ∧ 4 * S * W < L * L) : qv S L W (-L, 2 * S) < 0 := by
  obtain ⟨s, l, w, k⟩ := h
  have n1 := Int.mul_pos s (show 0 < L * L - 4 * S * W by omega)
  unfold qv
  dsimp
  have e1 : S * -L * -L + L * -L * (2 * S) + W * (2 * S) * (2 * S) = -(S * (L * L - 4 * S * W)) := by grind
  omega
theorem nb_ends {S L W : Int} : nbB S L W = true ↔ ∀ e ∈ endsE S L W, ¬ qv S L W e < 0 := by
  constructor
  · intro h e he z
    have : 0 ≤ e.1 ∧ 0 ≤ e.2 := by
      unfold endsE at he
      simp only [List.mem_append, List.mem_cons, List.not_mem_nil, or_false] at he
      rcases he with ((rfl | rfl) | he) | he
      · exact ⟨by decide, by decide⟩
      · exact ⟨by decide, by decide⟩
      · split at he
        · rename_i c
          rw [List.mem_singleton] at he
          subst he
          obtain ⟨p1, p2, _⟩ := low_pos (e := ((L.natAbs : Int), 2 * (S.natAbs : Int))) ⟨by dsimp; omega, by dsimp; omega, .inr (by dsimp; omega)⟩
          exact ⟨p1, p2⟩
        · cases he
      · split at he
        · rename_i c
          rw [List.mem_singleton] at he
          subst he
          obtain ⟨p1, p2, _⟩ := low_pos (e := ((W.natAbs : Int) + 1, (L.natAbs : Int))) ⟨by dsimp; omega, by dsimp; omega, .inr (by dsimp; omega)⟩
          exact ⟨p1, p2⟩
        · cases he
    have := nb_all h this.1 this.2
    omega
  · intro h
    cases hb : nbB S L W with
    | true => rfl
    | false =>
      exfalso
      unfold endsE at h
      simp only [List.mem_append, List.mem_cons, List.not_mem_nil, or_false] at h
      rcases nb_not hb with z | z | z | z
      · have := h (0, 1) (.inl (.inl (.inl rfl)))
        unfold qv at this
        dsimp at this
        simp at this
        omega
      · have := h (1, 0) (.inl (.inl (.inr rfl)))
        unfold qv at this
        dsimp at this
        simp at this
        omega
      · have q := (q_two z).1
        have := h (low ((W.natAbs : Int) + 1, (L.natAbs : Int))) (.inr (by rw [if_pos (by omega)]; exact List.mem_singleton.mpr rfl))
        rw [qv_low ⟨by dsimp; omega, by dsimp; omega, .inr (by dsimp; omega)⟩, show ((W.natAbs : Int)) = W by omega, show ((L.natAbs : Int)) = -L by omega] at this
        exact this q
      · have q := q_three z
        have := h (low ((L.natAbs : Int), 2 * (S.natAbs : Int))) (.inl (.inr (by rw [if_pos (by omega)]; exact List.mem_singleton.mpr rfl)))
        rw [qv_low ⟨by dsimp; omega, by dsimp; omega, .inr (by dsimp; omega)⟩, show ((S.natAbs : Int)) = S by omega, show ((L.natAbs : Int)) = -L by omega] at this
        exact this q
theorem lowE_pos {S L W : Int} (h : nbB S L W = false) : Pos2 (lowE S L W) := by
  unfold lowE
  have z := nb_not h
  split
  · exact ⟨by decide, by decide, .inr (by decide)⟩
  · split
    · exact ⟨by decide, by decide, .inl (by decide)⟩
    · split
      · exact ⟨by dsimp; omega, by dsimp; omega, .inr (by dsimp; omega)⟩
      · exact ⟨by dsimp; omega, by dsimp; omega, .inr (by dsimp; omega)⟩
theorem lowE_neg {S L W : Int} (h : nbB S L W = false) : qv S L W (lowE S L W) < 0 := by
  unfold lowE
  have z := nb_not h
  split
  · unfold qv
    dsimp
    simp
    omega
  · split
    · unfold qv
      dsimp
      simp
      omega
    · split
      · exact (q_two (by omega)).2
      · exact q_three (by omega)
/-- what two patterns show in front of a load -/
theorem below_q {r r' : List Pc} (hr : RowOk r) (hr' : RowOk r') {e : Int × Int} (he : Pos2 e) : below (low (frtR r' e)) (low (frtR r e)) = decide (qv (qS (matR r') (matR r)) (qL (matR r') (matR r)) (qW (matR r') (matR r)) e < 0) := by
  rw [← shows_front hr he, ← shows_front hr' he, below_low (app_pos hr' he) (app_pos hr he)]
  unfold below Mx.app qv qS qL qW
  dsimp
  have e1 : ∀ {a b c d a' b' c' d' t u : Int}, (a' * c - a * c') * t * t + (a' * d + b' * c - a * d' - b * c') * t * u + (b' * d - b * d') * u * u = (a' * t + b' * u) * (c * t + d * u) - (a * t + b * u) * (c' * t + d' * u) := by
    intros
    grind
  rw [e1]
  exact decide_eq_decide.mpr (by omega)
theorem q_refl (m : Mx) : qS m m = 0 ∧ qL m m = 0 ∧ qW m m = 0 := by
  unfold qS qL qW
  refine ⟨by omega, ?_, by omega⟩
  grind
theorem nb_refl (m : Mx) : nbB (qS m m) (qL m m) (qW m m) = true := by
  obtain ⟨h1, h2, h3⟩ := q_refl m
  rw [h1, h2, h3]
  decide
theorem below_anti {e f : Int × Int} (h1 : below e f = false) (h2 : below f e = false) : e.1 * f.2 = f.1 * e.2 := by
  have h1 := of_decide_eq_false h1
  have h2 := of_decide_eq_false h2
  omega
theorem low_cross2 {e f : Int × Int} (he : Pos2 e) (hf : Pos2 f) (le : low e = e) (lf : low f = f) (h : e.1 * f.2 = f.1 * e.2) : e = f := by
  have k : sc (e.1 + e.2) f = sc (f.1 + f.2) e := by
    unfold sc
    refine Prod.ext ?_ ?_
    · dsimp
      have : (e.1 + e.2) * f.1 = e.1 * f.1 + f.1 * e.2 := by grind
      rw [this, ← h]
      grind
    · dsimp
      have : (e.1 + e.2) * f.2 = e.1 * f.2 + e.2 * f.2 := by grind
      rw [this, h]
      grind
  obtain ⟨a1, a2, a3⟩ := he
  obtain ⟨b1, b2, b3⟩ := hf
  have := congrArg low k
  rw [low_sc (by omega), low_sc (by omega), le, lf] at this
  exact this.symm
/-- two that show at most one another are equal -/
theorem nb_anti {r r' : List Pc} (hr : RowOk r) (hr' : RowOk r') (h : nbB (qS (matR r') (matR r)) (qL (matR r') (matR r)) (qW (matR r') (matR r)) = true) (h' : nbB (qS (matR r) (matR r')) (qL (matR r) (matR r')) (qW (matR r) (matR r')) = true) : fourOf r = fourOf r' := by
  refine shows_eq hr hr' fun e he hl => ?_
  have b1 : below (low (frtR r' e)) (low (frtR r e)) = false := by
    rw [below_q hr hr' he]
    exact decide_eq_false (by have := nb_all h he.1 he.2.1; omega)
  have b2 : below (low (frtR r e)) (low (frtR r' e)) = false := by
    rw [below_q hr' hr he]
    exact decide_eq_false (by have := nb_all h' he.1 he.2.1; omega)
  have p := frtR_pos hr he
  have p' := frtR_pos hr' he
  exact low_cross2 (low_pos p) (low_pos p') (low_low p) (low_low p') (below_anti b2 b1)
end RL

set_option maxHeartbeats 4000000
namespace RL
open PySem L2 PySem.Spec PyProof.Rows
def ParAt (H : Hp) (z : Addr) (S L W : Int) : Prop := H z = some (.tup [.int S, .int L, .int W])
abbrev PrT (K : PySem.W.Frag) (H : Hp) (p : Addr) (e : Int × Int) : Prop := SqT K H p [.int e.1, .int e.2]
def spSgZ : Sp := fun vs H Q _ => ∃ n : Int, vs = [.int n] ∧ Q (.int (sgn n)) H
def spPOZ (K : PySem.W.Frag) : Sp := fun vs H Q _ => ∃ (p q : Addr) (e f : Int × Int), vs = [.ref p, .ref q] ∧ PrT K H p e ∧ PrT K H q f ∧ Sm 200 e.1 ∧ Sm 200 e.2 ∧ Sm 200 f.1 ∧ Sm 200 f.2 ∧ Q (.int (sgn (e.1 * f.2 - f.1 * e.2))) H
def spDiff : Sp := fun vs H Q _ => ∃ (p q : Addr) (m n : Mx), vs = [.ref p, .ref q] ∧ H p = some (.tup (MatT m)) ∧ H q = some (.tup (MatT n)) ∧ MxSm 30 m ∧ MxSm 30 n ∧ ∀ H' z, Same H H' → ParAt H' z (qS m n) (qL m n) (qW m n) → Q (.ref z) H'
def spSAt (K : PySem.W.Frag) : Sp := fun vs H Q _ => ∃ (z p : Addr) (S L W : Int) (e : Int × Int), vs = [.ref z, .ref p] ∧ ParAt H z S L W ∧ PrT K H p e ∧ Sm 70 S ∧ Sm 70 L ∧ Sm 70 W ∧ Sm 200 e.1 ∧ Sm 200 e.2 ∧ Q (.int (sgn (qv S L W e))) H
def spFar : Sp := fun vs H Q _ => ∃ (z : Addr) (S L W : Int), vs = [.ref z] ∧ ParAt H z S L W ∧ Q (.int (farS S L W)) H
def spFrom (K : PySem.W.Frag) : Sp := fun vs H Q _ => ∃ (z p : Addr) (S L W : Int) (e : Int × Int), vs = [.ref z, .ref p] ∧ ParAt H z S L W ∧ PrT K H p e ∧ e.2 ≠ 0 ∧ Sm 70 S ∧ Sm 70 L ∧ Sm 70 W ∧ Sm 200 e.1 ∧ Sm 200 e.2 ∧ Q (.int (sgn (qv S L W e))) H
def spTow (aO : Addr) : Sp := fun vs H Q _ => ∃ (z : Addr) (S L W : Int), vs = [.ref z, .ref aO] ∧ ParAt H z S L W ∧ Q (.int (farS S L W)) H
def spLB (K : PySem.W.Frag) (aO : Addr) : Sp := fun vs H Q _ => ∃ (p : Addr) (e : Int × Int), vs = [.ref aO, .ref p] ∧ PrT K H p e ∧ Sm 200 e.1 ∧ Sm 200 e.2 ∧ Q (.int (sgn (1 * e.2 - e.1 * 0))) H
def spNB (aO : Addr) : Sp := fun vs H Q _ => ∃ (z p : Addr) (S L W : Int), vs = [.ref z, .ref p, .ref aO] ∧ ParAt H z S L W ∧ PairAt H p (0, 1) ∧ Sm 70 S ∧ Sm 70 L ∧ Sm 70 W ∧ ∀ H', Same H H' → Q (.bl (nbB S L W)) H'
theorem qv_01 (S L W : Int) : qv S L W (0, 1) = W := by
  unfold qv
  dsimp
  simp
theorem sgZ_weak (vs : List V) (H : Hp) (Q : VK) (E : XK) (h : spSgZ vs H Q E) : spSign vs H Q E := h
section
variable {P : Program} {w : World} {K : PySem.W.Frag} {mg : Str → Option Value} {base : Heap} {tG t1 t3 tC tK : Tok} {aO aW aCh : Addr}
theorem ok_poZ {f : Addr} {fd : FuncData} (F : Fun K "pair_order" "pair_order" s_pair_order f fd) (D_sign : Df P w K mg base 1 "sign" ["number"] spSgZ) : FnOk P w K mg base CX0 2 f fd ["first", "second"] (spPOZ K) := by
  refine F.ok sc_pair_order (fun vs H Q E h => ?_) (fun cdv A outer s H vs Q E hr h => ?_)
  · obtain ⟨p, q, e, f, rfl, _⟩ := h
    rfl
  · obtain ⟨p, q, e, f, rfl, hp, hq, e1, e2, f1, f2, k⟩ := h
    refine ⟨_, (pss_one (ps_ret (pe_df D_sign (hr.mono (by decide)) (by rfl) (pa_cons (pe_op op_sub (pe_op op_mulX (pe_ix ix_tup (pv 0) pe_int (fun _ _ => rfl)) (pe_ix ix_tup (pv 1) pe_int (fun _ _ => rfl))) (pe_op op_mulX (pe_ix ix_tup (pv 1) pe_int (fun _ _ => rfl)) (pe_ix ix_tup (pv 0) pe_int (fun _ _ => rfl)))) pa_nil)))), ?_⟩
    exact ⟨_, rfl, p, _, _, _, rfl, rfl, hp, atI_nat (j := 0) rfl, _, rfl, q, _, _, _, rfl, rfl, hq, atI_nat (j := 1) rfl, _, _, rfl, rfl, mx e1 f2, _, rfl, q, _, _, _, rfl, rfl, hq, atI_nat (j := 0) rfl, _, rfl, p, _, _, _, rfl, rfl, hp, atI_nat (j := 1) rfl, _, _, rfl, rfl, mx f1 e2, _, _, rfl, rfl, _, rfl, k⟩
abbrev s_difference : Stmt := top 41
theorem sc_difference : FnScope ["matrix", "other_matrix", "a", "b", "c", "d", "other_a", "other_b", "other_c", "other_d", "square", "line", "whole"] ["matrix", "other_matrix"] (defScope s_difference) := ⟨rfl, rfl, rfl, by decide +kernel, rfl, by decide +kernel, by decide +kernel⟩

theorem ok_diff {f : Addr} {fd : FuncData} (F : Fun K "difference" "difference" s_difference f fd) : FnOk P w K mg base CX0 1 f fd ["matrix", "other_matrix"] spDiff := by
  refine F.ok sc_difference (fun vs H Q E h => ?_) (fun cdv A outer s H vs Q E hr h => ?_)
  · obtain ⟨p, q, m, n, rfl, _⟩ := h
    rfl
  · obtain ⟨p, q, m, n, rfl, hp, hq, ⟨a, b, c, d⟩, ⟨a', b', c', d'⟩, k⟩ := h
    refine ⟨_, (pss_cons (ps_asg (pv 0) (pg_tup rfl (pgs_cons (pg_name (i := 2) sc_difference.nd rfl (.inl rfl)) (pgs_cons (pg_name (i := 3) sc_difference.nd rfl (.inl rfl)) (pgs_cons (pg_name (i := 4) sc_difference.nd rfl (.inl rfl)) (pgs_cons (pg_name (i := 5) sc_difference.nd rfl (.inl rfl)) pgs_nil))))))
      (pss_cons (ps_asg (pv 1) (pg_tup rfl (pgs_cons (pg_name (i := 6) sc_difference.nd rfl (.inl rfl)) (pgs_cons (pg_name (i := 7) sc_difference.nd rfl (.inl rfl)) (pgs_cons (pg_name (i := 8) sc_difference.nd rfl (.inl rfl)) (pgs_cons (pg_name (i := 9) sc_difference.nd rfl (.inl rfl)) pgs_nil))))))
      (pss_cons (ps_set (i := 10) sc_difference.nd rfl (.inl rfl) (pe_op op_sub (pe_op op_mulX (pv 2) (pv 8)) (pe_op op_mulX (pv 6) (pv 4))))
      (pss_cons (ps_set (i := 11) sc_difference.nd rfl (.inl rfl) (pe_op op_sub (pe_op op_sub (pe_op op_add (pe_op op_mulX (pv 2) (pv 9)) (pe_op op_mulX (pv 3) (pv 8))) (pe_op op_mulX (pv 6) (pv 5))) (pe_op op_mulX (pv 7) (pv 4))))
      (pss_cons (ps_set (i := 12) sc_difference.nd rfl (.inl rfl) (pe_op op_sub (pe_op op_mulX (pv 3) (pv 9)) (pe_op op_mulX (pv 7) (pv 5))))
      (pss_one (ps_ret (pe_tup (pa_cons (pv 10) (pa_cons (pv 11) (pa_cons (pv 12) pa_nil))))))))))), ?_⟩
    refine ⟨_, rfl, p, _, rfl, SqT.of hp, rfl, _, _, rfl, _, _, rfl, _, _, rfl, _, _, rfl, rfl, ?_⟩
    refine ⟨_, rfl, q, _, rfl, SqT.of hq, rfl, _, _, rfl, _, _, rfl, _, _, rfl, _, _, rfl, rfl, ?_⟩
    refine ⟨_, rfl, _, rfl, _, _, rfl, rfl, mx a c', _, rfl, _, rfl, _, _, rfl, rfl, mx a' c, _, _, rfl, rfl, ?_⟩
    refine ⟨_, rfl, _, rfl, _, _, rfl, rfl, mx a d', _, rfl, _, rfl, _, _, rfl, rfl, mx b c', _, _, rfl, rfl, _, rfl, _, rfl, _, _, rfl, rfl, mx a' d, _, _, rfl, rfl, _, rfl, _, rfl, _, _, rfl, rfl, mx b' c, _, _, rfl, rfl, ?_⟩
    refine ⟨_, rfl, _, rfl, _, _, rfl, rfl, mx b d', _, rfl, _, rfl, _, _, rfl, rfl, mx b' d, _, _, rfl, rfl, ?_⟩
    exact ⟨_, rfl, _, rfl, _, rfl, (by show 3 ≤ sizeLine; decide), fun z nz => k _ z (same_upd nz) upd_same⟩
abbrev s_sign_at : Stmt := top 42
theorem sc_sign_at : FnScope ["parabola", "pair", "square", "line", "whole", "top", "bottom"] ["parabola", "pair"] (defScope s_sign_at) := ⟨rfl, rfl, rfl, by decide +kernel, rfl, by decide +kernel, by decide +kernel⟩

theorem ok_sat {f : Addr} {fd : FuncData} (F : Fun K "sign_at" "sign_at" s_sign_at f fd) (D_sign : Df P w K mg base 1 "sign" ["number"] spSgZ) : FnOk P w K mg base CX0 2 f fd ["parabola", "pair"] (spSAt K) := by
  refine F.ok sc_sign_at (fun vs H Q E h => ?_) (fun cdv A outer s H vs Q E hr h => ?_)
  · obtain ⟨z, p, S, L, W, e, rfl, _⟩ := h
    rfl
  · obtain ⟨z, p, S, L, W, e, rfl, hz, hp, sS, sL, sW, e1, e2, k⟩ := h
    refine ⟨_, (pss_cons (ps_asg (pv 0) (pg_tup rfl (pgs_cons (pg_name (i := 2) sc_sign_at.nd rfl (.inl rfl)) (pgs_cons (pg_name (i := 3) sc_sign_at.nd rfl (.inl rfl)) (pgs_cons (pg_name (i := 4) sc_sign_at.nd rfl (.inl rfl)) pgs_nil)))))
      (pss_cons (ps_asg (pv 1) (pg_tup rfl (pgs_cons (pg_name (i := 5) sc_sign_at.nd rfl (.inl rfl)) (pgs_cons (pg_name (i := 6) sc_sign_at.nd rfl (.inl rfl)) pgs_nil))))
      (pss_one (ps_ret (pe_df D_sign (hr.mono (by decide)) (by rfl) (pa_cons (pe_op op_add (pe_op op_add (pe_op op_mulX (pe_op op_mulX (pv 2) (pv 5)) (pv 5)) (pe_op op_mulX (pe_op op_mulX (pv 3) (pv 5)) (pv 6))) (pe_op op_mulX (pe_op op_mulX (pv 4) (pv 6)) (pv 6))) pa_nil)))))), ?_⟩
    refine ⟨_, rfl, z, _, rfl, SqT.of hz, rfl, _, _, rfl, _, _, rfl, _, _, rfl, rfl, ?_⟩
    refine ⟨_, rfl, p, _, rfl, hp, rfl, _, _, rfl, _, _, rfl, rfl, ?_⟩
    exact ⟨_, rfl, _, rfl, _, _, rfl, rfl, mx sS e1, _, rfl, _, _, rfl, rfl, mx (sS.mul e1) e1, _, rfl, _, rfl, _, _, rfl, rfl, mx sL e1, _, rfl, _, _, rfl, rfl, mx (sL.mul e1) e2, _, _, rfl, rfl, _, rfl, _, rfl, _, _, rfl, rfl, mx sW e2, _, rfl, _, _, rfl, rfl, mx (sW.mul e2) e2, _, _, rfl, rfl, _, rfl, k⟩
abbrev s_sign_far_out : Stmt := top 43
theorem sc_sign_far_out : FnScope ["parabola", "square", "line", "whole"] ["parabola"] (defScope s_sign_far_out) := ⟨rfl, rfl, rfl, by decide +kernel, rfl, by decide +kernel, by decide +kernel⟩

theorem ok_far {f : Addr} {fd : FuncData} (F : Fun K "sign_far_out" "sign_far_out" s_sign_far_out f fd) (D_sign : Df P w K mg base 1 "sign" ["number"] spSgZ) : FnOk P w K mg base CX0 2 f fd ["parabola"] spFar := by
  refine F.ok sc_sign_far_out (fun vs H Q E h => ?_) (fun cdv A outer s H vs Q E hr h => ?_)
  · obtain ⟨z, S, L, W, rfl, _⟩ := h
    rfl
  · obtain ⟨z, S, L, W, rfl, hz, k⟩ := h
    refine ⟨_, (pss_cons (ps_asg (pv 0) (pg_tup rfl (pgs_cons (pg_name (i := 1) sc_sign_far_out.nd rfl (.inl rfl)) (pgs_cons (pg_name (i := 2) sc_sign_far_out.nd rfl (.inl rfl)) (pgs_cons (pg_name (i := 3) sc_sign_far_out.nd rfl (.inl rfl)) pgs_nil)))))
      (pss_one (ps_ret (pe_orT (pe_df D_sign (hr.mono (by decide)) (by rfl) (pa_cons (pv 1) pa_nil)) (pe_orT (pe_df D_sign (hr.mono (by decide)) (by rfl) (pa_cons (pv 2) pa_nil)) (pe_one (pe_df D_sign (hr.mono (by decide)) (by rfl) (pa_cons (pv 3) pa_nil)))))))), ?_⟩
    refine ⟨_, rfl, z, _, rfl, SqT.of hz, rfl, _, _, rfl, _, _, rfl, _, _, rfl, rfl, ?_⟩
    unfold farS at k
    refine ⟨_, rfl, _, rfl, _, rfl, ite2 (fun e => ?_) (fun e => ?_)⟩
    · rw [if_pos e] at k
      exact k
    · rw [if_neg e] at k
      refine ⟨_, rfl, _, rfl, _, rfl, ite2 (fun e => ?_) (fun e => ?_)⟩
      · rw [if_pos e] at k
        exact k
      · rw [if_neg e] at k
        exact ⟨_, rfl, _, rfl, k⟩
abbrev s_sign_from : Stmt := top 44
theorem sc_sign_from : FnScope ["parabola", "pair"] ["parabola", "pair"] (defScope s_sign_from) := ⟨rfl, rfl, rfl, by decide +kernel, rfl, by decide +kernel, by decide +kernel⟩

theorem ok_from {f : Addr} {fd : FuncData} (F : Fun K "sign_from" "sign_from" s_sign_from f fd) (D_sign_far_out : Df P w K mg base 2 "sign_far_out" ["parabola"] spFar) (D_sign_at : Df P w K mg base 2 "sign_at" ["parabola", "pair"] (spSAt K)) : FnOk P w K mg base CX0 3 f fd ["parabola", "pair"] (spFrom K) := by
  refine F.ok sc_sign_from (fun vs H Q E h => ?_) (fun cdv A outer s H vs Q E hr h => ?_)
  · obtain ⟨z, p, S, L, W, e, rfl, _⟩ := h
    rfl
  · obtain ⟨z, p, S, L, W, e, rfl, hz, hp, n0, sS, sL, sW, e1, e2, k⟩ := h
    refine ⟨_, (pss_one (ps_ret (pe_ifExp (pt_cmpR op_eq (pe_ix ix_tup (pv 1) pe_int (fun _ _ => rfl)) pe_int (nomark _)) (pe_df D_sign_far_out (hr.mono (by decide)) (by rfl) (pa_cons (pv 0) pa_nil)) (pe_df D_sign_at (hr.mono (by decide)) (by rfl) (pa_cons (pv 0) (pa_cons (pv 1) pa_nil)))))), ?_⟩
    refine ⟨_, rfl, p, _, _, _, rfl, rfl, hp, atI_nat (j := 1) rfl, rfl, _, rfl, ite2 (fun e => absurd (V.int.inj (of_decide_eq_true e)) n0) (fun _ => ?_)⟩
    exact ⟨_, rfl, _, rfl, z, p, S, L, W, e, rfl, hz, hp, sS, sL, sW, e1, e2, k⟩
abbrev s_sign_towards : Stmt := top 45
theorem sc_sign_towards : FnScope ["parabola", "limit", "square", "line", "whole", "limit_square", "limit_line", "limit_whole", "slope", "height"] ["parabola", "limit"] (defScope s_sign_towards) := ⟨rfl, rfl, rfl, by decide +kernel, rfl, by decide +kernel, by decide +kernel⟩

theorem ok_tow {f : Addr} {fd : FuncData} (F : Fun K "sign_towards" "sign_towards" s_sign_towards f fd) (T : Txt2 K mg tG aO) (D_sign_far_out : Df P w K mg base 2 "sign_far_out" ["parabola"] spFar) : FnOk P w K mg base CX0 3 f fd ["parabola", "limit"] (spTow aO) := by
  refine F.ok sc_sign_towards (fun vs H Q E h => ?_) (fun cdv A outer s H vs Q E hr h => ?_)
  · obtain ⟨z, S, L, W, rfl, _⟩ := h
    rfl
  · obtain ⟨z, S, L, W, rfl, hz, k⟩ := h
    refine ⟨_, (pss_cons (ps_asg (pv 0) (pg_tup rfl (pgs_cons (pg_name (i := 2) sc_sign_towards.nd rfl (.inl rfl)) (pgs_cons (pg_name (i := 3) sc_sign_towards.nd rfl (.inl rfl)) (pgs_cons (pg_name (i := 4) sc_sign_towards.nd rfl (.inl rfl)) pgs_nil)))))
      (pss_cons (ps_if (pt_cmpR (op_eqD hr.units) (pv 1) (pe_glob (v := .ref aO) rfl T.mgO rfl) (nomark _)) (pss_one (ps_ret (pe_df D_sign_far_out (hr.mono (by decide)) (by rfl) (pa_cons (pv 0) pa_nil)))) pss_nil)
      pss_never)), ?_⟩
    refine ⟨_, rfl, z, _, rfl, SqT.of hz, rfl, _, _, rfl, _, _, rfl, _, _, rfl, rfl, ?_⟩
    refine ⟨_, rfl, .tuple [.int 1, .int 0], .tuple [.int 1, .int 0], .tup (.inr T.opn) (.cons (.int _) (.cons (.int _) .nil)), .tup (.inr T.opn) (.cons (.int _) (.cons (.int _) .nil)), rfl, rfl, _, rfl, ite2 (fun _ => ?_) (fun e => absurd (SeqAt.eqv_refl _ (by decide +kernel)) e)⟩
    exact ⟨_, rfl, z, S, L, W, rfl, hz, k⟩
abbrev s_limit_beside : Stmt := top 36
theorem sc_limit_beside : FnScope ["limit", "pair", "top", "bottom"] ["limit", "pair"] (defScope s_limit_beside) := ⟨rfl, rfl, rfl, by decide +kernel, rfl, by decide +kernel, by decide +kernel⟩

theorem ok_lb {f : Addr} {fd : FuncData} (F : Fun K "limit_beside" "limit_beside" s_limit_beside f fd) (T : Txt2 K mg tG aO) (D_pair_order : Df P w K mg base 2 "pair_order" ["first", "second"] (spPOZ K)) : FnOk P w K mg base CX0 3 f fd ["limit", "pair"] (spLB K aO) := by
  refine F.ok sc_limit_beside (fun vs H Q E h => ?_) (fun cdv A outer s H vs Q E hr h => ?_)
  · obtain ⟨p, e, rfl, _⟩ := h
    rfl
  · obtain ⟨p, e, rfl, hp, e1, e2, k⟩ := h
    refine ⟨_, (pss_cons (ps_if (pt_cmpR (op_eqD hr.units) (pv 0) (pe_glob (v := .ref aO) rfl T.mgO rfl) (nomark _)) (pss_one (ps_ret (pe_df D_pair_order (hr.mono (by decide)) (by rfl) (pa_cons (pe_glob (v := .ref aO) rfl T.mgO rfl) (pa_cons (pv 1) pa_nil))))) pss_nil)
      pss_never), ?_⟩
    refine ⟨_, rfl, .tuple [.int 1, .int 0], .tuple [.int 1, .int 0], .tup (.inr T.opn) (.cons (.int _) (.cons (.int _) .nil)), .tup (.inr T.opn) (.cons (.int _) (.cons (.int _) .nil)), rfl, rfl, _, rfl, ite2 (fun _ => ?_) (fun e => absurd (SeqAt.eqv_refl _ (by decide +kernel)) e)⟩
    exact ⟨_, rfl, aO, p, (1, 0), e, rfl, .inr T.opn, hp, by unfold Sm; decide, by unfold Sm; decide, e1, e2, k⟩
abbrev s_never_below : Stmt := top 46
theorem sc_never_below : FnScope ["parabola", "pair", "limit", "square", "line", "whole", "lowest"] ["parabola", "pair", "limit"] (defScope s_never_below) := ⟨rfl, rfl, rfl, by decide +kernel, rfl, by decide +kernel, by decide +kernel⟩

theorem ok_nb {f : Addr} {fd : FuncData} (F : Fun K "never_below" "never_below" s_never_below f fd) (D_sign_from : Df P w K mg base 3 "sign_from" ["parabola", "pair"] (spFrom K)) (D_sign_towards : Df P w K mg base 3 "sign_towards" ["parabola", "limit"] (spTow aO)) (D_pair_order : Df P w K mg base 2 "pair_order" ["first", "second"] (spPOZ K)) (D_limit_beside : Df P w K mg base 3 "limit_beside" ["limit", "pair"] (spLB K aO)) : FnOk P w K mg base CX0 4 f fd ["parabola", "pair", "limit"] (spNB aO) := by
  refine F.ok sc_never_below (fun vs H Q E h => ?_) (fun cdv A outer s H vs Q E hr h => ?_)
  · obtain ⟨z, p, S, L, W, rfl, _⟩ := h
    rfl
  · obtain ⟨z, p, S, L, W, rfl, hz, hp, sS, sL, sW, k⟩ := h
    refine ⟨_, (pss_cons (ps_if (PW.pt (pw_or (pt_cmpR op_lt (pe_df D_sign_from (hr.mono (by decide)) (by rfl) (pa_cons (pv 0) (pa_cons (pv 1) pa_nil))) pe_int (nomark _)) (pw_or1 (pt_cmpR op_lt (pe_df D_sign_towards (hr.mono (by decide)) (by rfl) (pa_cons (pv 0) (pa_cons (pv 2) pa_nil))) pe_int (nomark _))))) (pss_one (ps_ret pe_bl)) pss_nil)
      (pss_cons (ps_asg (pv 0) (pg_tup rfl (pgs_cons (pg_name (i := 3) sc_never_below.nd rfl (.inl rfl)) (pgs_cons (pg_name (i := 4) sc_never_below.nd rfl (.inl rfl)) (pgs_cons (pg_name (i := 5) sc_never_below.nd rfl (.inl rfl)) pgs_nil)))))
      (pss_cons (ps_if (PW.pt (pw_or (pt_cmpR op_le (pv 3) pe_int (nomark _)) (pw_or (pt_cmpR op_ge (pv 4) pe_int (nomark _)) (pw_or1 (pt_cmpR op_le (pe_op op_mulX (pv 4) (pv 4)) (pe_op op_mulX (pe_op op_mul pe_int (pv 3)) (pv 5)) (nomark _)))))) (pss_one (ps_ret pe_bl)) pss_nil)
      (pss_cons (ps_set (i := 6) sc_never_below.nd rfl (.inl rfl) (pe_tup (pa_cons (pe_un un_neg (pv 4)) (pa_cons (pe_op op_mul pe_int (pv 3)) pa_nil))))
      (pss_one (ps_ret (pe_cmpR op_eq (pe_df D_pair_order (hr.mono (by decide)) (by rfl) (pa_cons (pv 1) (pa_cons (pv 6) pa_nil))) (pe_df D_limit_beside (hr.mono (by decide)) (by rfl) (pa_cons (pv 2) (pa_cons (pv 6) pa_nil))) (nomark _)))))))), ?_⟩
    have kF : ¬ (¬ (W < 0 ∨ farS S L W < 0) ∧ (S ≤ 0 ∨ L ≥ 0 ∨ L * L ≤ 4 * S * W)) → ∀ H', Same H H' → Q (.bl false) H' := fun h H' s' => by
      have z := k _ s'
      unfold nbB at z
      rw [decide_eq_false h] at z
      exact z
    have kT : (¬ (W < 0 ∨ farS S L W < 0) ∧ (S ≤ 0 ∨ L ≥ 0 ∨ L * L ≤ 4 * S * W)) → ∀ H', Same H H' → Q (.bl true) H' := fun h H' s' => by
      have z := k _ s'
      unfold nbB at z
      rw [decide_eq_true h] at z
      exact z
    refine ⟨_, rfl, _, rfl, z, p, S, L, W, (0, 1), rfl, hz, SqT.of hp, by decide, sS, sL, sW, by unfold Sm; decide, by unfold Sm; decide, _, _, rfl, rfl, _, rfl, ite2 (fun e => iteT ?_) (fun e => ?_)⟩
    · have e0 := of_decide_eq_true e
      rw [qv_01, sgn_lt] at e0
      exact kF (fun z => z.1 (.inl e0)) _ (Same.refl _)
    have w0 : ¬ W < 0 := fun z => e (decide_eq_true (by rw [qv_01, sgn_lt]; exact z))
    clear e
    refine ⟨_, rfl, _, rfl, z, S, L, W, rfl, hz, _, _, rfl, rfl, _, rfl, ite2 (fun e => ?_) (fun e => ?_)⟩
    · exact kF (fun z => z.1 (.inr (of_decide_eq_true e))) _ (Same.refl _)
    have f0 : ¬ farS S L W < 0 := fun z => e (decide_eq_true z)
    clear e
    refine ⟨_, rfl, z, _, rfl, SqT.of hz, rfl, _, _, rfl, _, _, rfl, _, _, rfl, rfl, ?_⟩
    have wf : ¬ (W < 0 ∨ farS S L W < 0) := fun z => z.elim w0 f0
    refine ⟨_, rfl, _, _, rfl, rfl, _, rfl, ite2 (fun e => iteT (kT ⟨wf, .inl (of_decide_eq_true e)⟩ _ (Same.refl _))) (fun e => ?_)⟩
    have s0 : ¬ S ≤ 0 := fun z => e (decide_eq_true z)
    clear e
    refine ⟨_, rfl, _, _, rfl, rfl, _, rfl, ite2 (fun e => iteT (kT ⟨wf, .inr (.inl (of_decide_eq_true e))⟩ _ (Same.refl _))) (fun e => ?_)⟩
    have l0 : ¬ L ≥ 0 := fun z => e (decide_eq_true z)
    clear e
    have four : Sm 3 4 := by unfold Sm; decide
    refine ⟨_, rfl, _, rfl, _, _, rfl, rfl, mx sL sL, _, rfl, _, _, rfl, rfl, .inl ⟨by decide, by decide⟩, _, rfl, _, _, rfl, rfl, mx (four.mul sS) sW, _, _, rfl, rfl, _, rfl, ite2 (fun e => kT ⟨wf, .inr (.inr (of_decide_eq_true e))⟩ _ (Same.refl _)) (fun e => ?_)⟩
    have q0 : ¬ L * L ≤ 4 * S * W := fun z => e (decide_eq_true z)
    clear e
    have two : Sm 2 2 := by unfold Sm; decide
    refine ⟨_, rfl, _, rfl, _, rfl, _, _, rfl, rfl, .inl ⟨by decide, by decide⟩, (by show 2 ≤ sizeLine; decide), fun q nq => ?_⟩
    have sq := same_upd (o := .tup [.int (-L), .int (2 * S)]) nq
    have hq : PairAt (upd H q (.tup [.int (-L), .int (2 * S)])) q (-L, 2 * S) := upd_same
    refine ⟨_, rfl, _, rfl, p, q, (0, 1), (-L, 2 * S), rfl, SqT.of (sq _ _ hp), SqT.of hq, by unfold Sm; decide, by unfold Sm; decide, (sL.neg).mono (by decide), (two.mul sS).mono (by decide), ?_⟩
    refine ⟨_, rfl, _, rfl, q, (-L, 2 * S), rfl, SqT.of hq, (sL.neg).mono (by decide), (two.mul sS).mono (by decide), ?_⟩
    have e1 : sgn ((0 : Int) * (2 * S) - -L * 1) = -1 := by
      unfold sgn
      rw [if_neg (by omega), if_pos (by omega)]
    have e2 : sgn ((1 : Int) * (2 * S) - -L * 0) = 1 := by
      unfold sgn
      rw [if_pos (by omega)]
    refine ⟨rfl, ?_⟩
    show Q (.bl (decide (V.int (sgn ((0 : Int) * (2 * S) - -L * 1)) = V.int (sgn ((1 : Int) * (2 * S) - -L * 0))))) _
    rw [e1, e2]
    exact kF (fun z => z.2.elim s0 fun z => z.elim l0 q0) _ sq
end
end RL

set_option maxHeartbeats 4000000
namespace RL
open PySem L2 PySem.Spec PyProof.Rows
/-! ### never, more: the checker -/
def nmB (r m : PyData) : Bool := nbB (qS (matR (rowOf m)) (matR (rowOf r))) (qL (matR (rowOf m)) (matR (rowOf r))) (qW (matR (rowOf m)) (matR (rowOf r)))
def nevB : List PyData → PyData → Bool
  | [r, m], e => emptyG e && (rowG r && (rowG m && nmB r m))
  | _, _ => false
theorem nevB_no {r : List PyData} {e : PyData} (h : r.length ≠ 2) : nevB r e = false := by
  match r, h with
  | [], _ => rfl
  | [_], _ => rfl
  | [_, _], h => exact absurd rfl h
  | _ :: _ :: _ :: _, _ => rfl
def mreE (r m l : PyData) : Bool := decide (0 < sg (((matR (rowOf r)).app (prOf l)).1 * ((matR (rowOf m)).app (prOf l)).2 - ((matR (rowOf m)).app (prOf l)).1 * ((matR (rowOf r)).app (prOf l)).2))
def mreB : List PyData → PyData → Bool
  | [r, m, l], e => emptyG e && (rowG r && (rowG m && (numG l && mreE r m l)))
  | _, _ => false
theorem mreB_no {r : List PyData} {e : PyData} (h : r.length ≠ 3) : mreB r e = false := by
  match r, h with
  | [], _ => rfl
  | [_], _ => rfl
  | [_, _], _ => rfl
  | [_, _, _], h => exact absurd rfl h
  | _ :: _ :: _ :: _ :: _, _ => rfl
def spCkB2 (f : List PyData → PyData → Bool) : Sp := fun vs H Q _ => ∃ (t : Addr) (ys : List V) (ds : List PyData) (u : V) (e : PyData), vs = [.ref t, u] ∧ H t = some (.tup ys) ∧ Drs H ys ds ∧ (∀ d ∈ ds, PlOk d) ∧ Dr H u e ∧ PlOk e ∧ ∀ H', Same H H' → Q (.bl (f ds e)) H'
theorem q_sm {m n : Mx} (hm : MxSm 30 m) (hn : MxSm 30 n) : Sm 70 (qS m n) ∧ Sm 70 (qL m n) ∧ Sm 70 (qW m n) := by
  obtain ⟨a, b, c, d⟩ := hm
  obtain ⟨a', b', c', d'⟩ := hn
  exact ⟨((a.mul c').sub (a'.mul c)).mono (by decide), ((((a.mul d').add (b.mul c')).sub ((a'.mul d).mono (by decide))).sub ((b'.mul c).mono (by decide))).mono (by decide), ((b.mul d').sub (b'.mul d)).mono (by decide)⟩
section
variable {P : Program} {w : World} {K : PySem.W.Frag} {mg : Str → Option Value} {base : Heap} {tG t1 t3 tC tK : Tok} {aO aW aCh : Addr}
theorem ok_ckn {f : Addr} {fd : FuncData} (F : Fun K "check_never" "check_never" s_check_never f fd) (T : TxtA K mg w tG t1 t3 tC tK aO aW aCh) (D_is_empty : Df P w K mg base 1 "is_empty" ["value"] (spEmptyG K)) (D_is_row : Df P w K mg base 4 "is_row" ["value"] (spRowG K)) (D_matrix_of : Df P w K mg base 2 "matrix_of" ["row"] spMatOf) (D_difference : Df P w K mg base 1 "difference" ["matrix", "other_matrix"] spDiff) (D_never_below : Df P w K mg base 4 "never_below" ["parabola", "pair", "limit"] (spNB aO)) : FnOk P w K mg base CX0 5 f fd ["places", "certificate"] (spCkB2 nevB) := by
  refine F.ok sc_check_never (fun vs H Q E h => ?_) (fun cdv A outer s H vs Q E hr h => ?_)
  · obtain ⟨t, ys, ds, u, e, rfl, _⟩ := h
    rfl
  · obtain ⟨t, ys, ds, u, e, rfl, ht, hy, hpl, hu, hpe, k⟩ := h
    refine ⟨_, (pss_cons (ps_if (PW.pt (pw_or (pt_cmpR op_ne (pe_callB call_len_seq (by rfl) T.len (by decide +kernel) (pa_cons (pv 0) pa_nil)) pe_int (nomark _)) (pw_or (pt_not (pt_val (pe_df D_is_empty (hr.mono (by decide)) (by rfl) (pa_cons (pv 1) pa_nil)))) (pw_or (pt_not (pt_val (pe_df D_is_row (hr.mono (by decide)) (by rfl) (pa_cons (pe_ix ix_tup (pv 0) pe_int (fun _ _ => rfl)) pa_nil)))) (pw_or1 (pt_not (pt_val (pe_df D_is_row (hr.mono (by decide)) (by rfl) (pa_cons (pe_ix ix_tup (pv 0) pe_int (fun _ _ => rfl)) pa_nil))))))))) (pss_one (ps_ret pe_bl)) pss_nil)
      (pss_one (ps_ret (pe_df D_never_below (hr.mono (by decide)) (by rfl) (pa_cons (pe_df D_difference (hr.mono (by decide)) (by rfl) (pa_cons (pe_df D_matrix_of (hr.mono (by decide)) (by rfl) (pa_cons (pe_ix ix_tup (pv 0) pe_int (fun _ _ => rfl)) pa_nil)) (pa_cons (pe_df D_matrix_of (hr.mono (by decide)) (by rfl) (pa_cons (pe_ix ix_tup (pv 0) pe_int (fun _ _ => rfl)) pa_nil)) pa_nil))) (pa_cons (pd_tup (pds_cons pd_int (pds_cons pd_int pds_nil))) (pa_cons (pe_glob (v := .ref aO) rfl T.mgO rfl) pa_nil))))))), ?_⟩
    refine ⟨_, rfl, t, _, rfl, .inr (SqT.of ht), rfl, _, rfl, ite2 (fun e1 => ?_) (fun e1 => ?_)⟩
    · have nl : ds.length ≠ 2 := fun z => by
        rw [hy.1, z] at e1
        exact absurd e1 (by decide)
      rw [nevB_no nl] at k
      exact k _ (Same.refl _)
    have l2 : ds.length = 2 := by
      have e2 : decide (V.int (ys.length : Int) = V.int 2) = true := by
        cases hh : decide (V.int (ys.length : Int) = V.int 2) with
        | true => rfl
        | false =>
          rw [hh] at e1
          exact absurd rfl e1
      have := V.int.inj (of_decide_eq_true e2)
      have := hy.1
      omega
    obtain ⟨r, m, rfl⟩ : ∃ r m, ds = [r, m] := by
      match ds, l2 with
      | [r, m], _ => exact ⟨r, m, rfl⟩
    obtain ⟨vr, vm, rfl⟩ : ∃ a b, ys = [a, b] := by
      match ys, hy.1 with
      | [a, b], _ => exact ⟨a, b, rfl⟩
    obtain ⟨hr', hy1⟩ := hy.inv
    obtain ⟨hm', _⟩ := hy1.inv
    have nr := hpl r (by simp)
    have nm := hpl m (by simp)
    have q : nevB [r, m] e = (emptyG e && (rowG r && (rowG m && nmB r m))) := rfl
    rw [q] at k
    have no : ∀ {H'}, Same H H' → (emptyG e && (rowG r && (rowG m && nmB r m))) = false → Q (.bl false) H' := fun {H'} s z => by
      rw [z] at k
      exact k _ s
    refine ⟨_, rfl, u, e, rfl, hu.dq hpe.1, _, rfl, ?_⟩
    cases a0 : emptyG e with
    | false => exact iteT (no (Same.refl _) (by rw [a0]; rfl))
    | true =>
    refine iteF ⟨_, rfl, t, _, _, _, rfl, rfl, SqT.of ht, atI_nat (j := 0) rfl, vr, r, rfl, hr'.dq nr.1, fun H1 s1 => ⟨_, rfl, ?_⟩⟩
    cases a1 : rowG r with
    | false => exact iteT (no s1 (by rw [a1]; simp))
    | true =>
    refine iteF ⟨_, rfl, t, _, _, _, rfl, rfl, SqT.of (s1 _ _ ht), atI_nat (j := 1) rfl, vm, m, rfl, (hm'.mono s1).dq nm.1, fun H2 s2 => ⟨_, rfl, ?_⟩⟩
    have s12 := s1.trans s2
    cases a2 : rowG m with
    | false => exact iteT (no s12 (by rw [a2]; simp))
    | true =>
    rw [a0, a1, a2] at k
    simp only [Bool.true_and] at k
    have hrow := (row_at hr' a1).same s12
    obtain ⟨_, _, _, _, _, hok, _, l8⟩ := id hrow
    have hmrow := (row_at hm' a2).same s12
    obtain ⟨_, _, _, _, _, hok2, _, l82⟩ := id hmrow
    have mr := matR_sm30 hok l8
    have mm := matR_sm30 hok2 l82
    obtain ⟨z1, z2, z3⟩ := q_sm mm mr
    refine iteF ⟨_, rfl, t, _, _, _, rfl, rfl, SqT.of (s12 _ _ ht), atI_nat (j := 1) rfl, vm, rowOf m, rfl, hmrow, fun H3 am s3 ham => ?_⟩
    have s13 := s12.trans s3
    refine ⟨_, rfl, t, _, _, _, rfl, rfl, SqT.of (s13 _ _ ht), atI_nat (j := 0) rfl, vr, rowOf r, rfl, hrow.same s3, fun H4 ar s4 har => ?_⟩
    have s14 := s13.trans s4
    refine ⟨am, ar, matR (rowOf m), matR (rowOf r), rfl, s4 _ _ ham, har, mm, mr, fun H5 z s5 hz => ?_⟩
    have s15 := s14.trans s5
    intro H6 pv s6 hpv
    obtain ⟨p0, us, rfl, hp0, hus⟩ := Dr.tuple hpv
    obtain ⟨rfl⟩ : us = [.int 0, .int 1] := by
      match us, hus with
      | [x, y], hus =>
        have h1 := hus.inv.1.toInt
        have h2 := hus.inv.2.inv.1.toInt
        rw [h1, h2]
      | [], hus => exact absurd hus.1 (by simp)
      | [_], hus => exact absurd hus.1 (by simp)
      | _ :: _ :: _ :: _, hus => exact absurd hus.1 (by simp)
    have hp0 := (fresh_get hp0).2
    exact ⟨z, p0, _, _, _, rfl, s6 _ _ hz, hp0, z1, z2, z3, fun H7 s7 => k _ ((s15.trans s6).trans s7)⟩
abbrev s_check_more : Stmt := top 61
theorem sc_check_more : FnScope ["places", "certificate", "row", "other_row", "load", "pair"] ["places", "certificate"] (defScope s_check_more) := ⟨rfl, rfl, rfl, by decide +kernel, rfl, by decide +kernel, by decide +kernel⟩

theorem ok_ckmo {f : Addr} {fd : FuncData} (F : Fun K "check_more" "check_more" s_check_more f fd) (T : TxtA K mg w tG t1 t3 tC tK aO aW aCh) (D_is_empty : Df P w K mg base 1 "is_empty" ["value"] (spEmptyG K)) (D_is_row : Df P w K mg base 4 "is_row" ["value"] (spRowG K)) (D_is_number : Df P w K mg base 3 "is_number" ["value"] (spNumG K)) (D_pair_of : Df P w K mg base 2 "pair_of" ["fraction_or_open"] spPairN) (D_matrix_of : Df P w K mg base 2 "matrix_of" ["row"] spMatOf) (D_shown_before : Df P w K mg base 1 "shown_before" ["matrix", "pair"] spShown) (D_pair_order : Df P w K mg base 2 "pair_order" ["first", "second"] spPO) : FnOk P w K mg base CX0 5 f fd ["places", "certificate"] (spCkB2 mreB) := by
  refine F.ok sc_check_more (fun vs H Q E h => ?_) (fun cdv A outer s H vs Q E hr h => ?_)
  · obtain ⟨t, ys, ds, u, e, rfl, _⟩ := h
    rfl
  · obtain ⟨t, ys, ds, u, e, rfl, ht, hy, hpl, hu, hpe, k⟩ := h
    refine ⟨_, (pss_cons (ps_if (PW.pt (pw_or (pt_cmpR op_ne (pe_callB call_len_seq (by rfl) T.len (by decide +kernel) (pa_cons (pv 0) pa_nil)) pe_int (nomark _)) (pw_or1 (pt_not (pt_val (pe_df D_is_empty (hr.mono (by decide)) (by rfl) (pa_cons (pv 1) pa_nil))))))) (pss_one (ps_ret pe_bl)) pss_nil)
      (pss_cons (ps_asg (pv 0) (pg_tup rfl (pgs_cons (pg_name (i := 2) sc_check_more.nd rfl (.inl rfl)) (pgs_cons (pg_name (i := 3) sc_check_more.nd rfl (.inl rfl)) (pgs_cons (pg_name (i := 4) sc_check_more.nd rfl (.inl rfl)) pgs_nil)))))
      (pss_cons (ps_if (PW.pt (pw_or (pt_not (pt_val (pe_df D_is_row (hr.mono (by decide)) (by rfl) (pa_cons (pv 2) pa_nil)))) (pw_or (pt_not (pt_val (pe_df D_is_row (hr.mono (by decide)) (by rfl) (pa_cons (pv 3) pa_nil)))) (pw_or1 (pt_not (pt_val (pe_df D_is_number (hr.mono (by decide)) (by rfl) (pa_cons (pv 4) pa_nil)))))))) (pss_one (ps_ret pe_bl)) pss_nil)
      (pss_cons (ps_set (i := 5) sc_check_more.nd rfl (.inl rfl) (pe_df D_pair_of (hr.mono (by decide)) (by rfl) (pa_cons (pv 4) pa_nil)))
      (pss_one (ps_ret (pe_cmpR op_gt (pe_df D_pair_order (hr.mono (by decide)) (by rfl) (pa_cons (pe_df D_shown_before (hr.mono (by decide)) (by rfl) (pa_cons (pe_df D_matrix_of (hr.mono (by decide)) (by rfl) (pa_cons (pv 2) pa_nil)) (pa_cons (pv 5) pa_nil))) (pa_cons (pe_df D_shown_before (hr.mono (by decide)) (by rfl) (pa_cons (pe_df D_matrix_of (hr.mono (by decide)) (by rfl) (pa_cons (pv 3) pa_nil)) (pa_cons (pv 5) pa_nil))) pa_nil))) pe_int (nomark _)))))))), ?_⟩
    refine ⟨_, rfl, t, _, rfl, .inr (SqT.of ht), rfl, _, rfl, ite2 (fun e1 => ?_) (fun e1 => ?_)⟩
    · have nl : ds.length ≠ 3 := fun z => by
        rw [hy.1, z] at e1
        exact absurd e1 (by decide)
      rw [mreB_no nl] at k
      exact k _ (Same.refl _)
    have l3 : ds.length = 3 := by
      have e2 : decide (V.int (ys.length : Int) = V.int 3) = true := by
        cases hh : decide (V.int (ys.length : Int) = V.int 3) with
        | true => rfl
        | false =>
          rw [hh] at e1
          exact absurd rfl e1
      have := V.int.inj (of_decide_eq_true e2)
      have := hy.1
      omega
    obtain ⟨r, m, l, rfl⟩ : ∃ r m l, ds = [r, m, l] := by
      match ds, l3 with
      | [r, m, l], _ => exact ⟨r, m, l, rfl⟩
    obtain ⟨vr, vm, vl, rfl⟩ : ∃ a b c, ys = [a, b, c] := by
      match ys, hy.1 with
      | [a, b, c], _ => exact ⟨a, b, c, rfl⟩
    obtain ⟨hr', hy1⟩ := hy.inv
    obtain ⟨hm', hy2⟩ := hy1.inv
    obtain ⟨hl', _⟩ := hy2.inv
    have nr := hpl r (by simp)
    have nm := hpl m (by simp)
    have nl := hpl l (by simp)
    have q : mreB [r, m, l] e = (emptyG e && (rowG r && (rowG m && (numG l && mreE r m l)))) := rfl
    rw [q] at k
    have no : ∀ {H'}, Same H H' → (emptyG e && (rowG r && (rowG m && (numG l && mreE r m l)))) = false → Q (.bl false) H' := fun {H'} s z => by
      rw [z] at k
      exact k _ s
    refine ⟨_, rfl, u, e, rfl, hu.dq hpe.1, _, rfl, ?_⟩
    cases a0 : emptyG e with
    | false => exact iteT (no (Same.refl _) (by rw [a0]; rfl))
    | true =>
    refine iteF ⟨_, rfl, t, _, rfl, SqT.of ht, rfl, _, _, rfl, _, _, rfl, _, _, rfl, rfl, ?_⟩
    refine ⟨_, rfl, vr, r, rfl, hr'.dq nr.1, fun H1 s1 => ⟨_, rfl, ?_⟩⟩
    cases a1 : rowG r with
    | false => exact iteT (no s1 (by rw [a1]; simp))
    | true =>
    refine iteF ⟨_, rfl, vm, m, rfl, (hm'.mono s1).dq nm.1, fun H2 s2 => ⟨_, rfl, ?_⟩⟩
    have s12 := s1.trans s2
    cases a2 : rowG m with
    | false => exact iteT (no s12 (by rw [a2]; simp))
    | true =>
    refine iteF ⟨_, rfl, vl, l, rfl, (hl'.mono s12).dq nl.1, _, rfl, ?_⟩
    cases a3 : numG l with
    | false => exact iteT (no s12 (by rw [a3]; simp))
    | true =>
    rw [a0, a1, a2, a3] at k
    simp only [Bool.true_and] at k
    have hrow := (row_at hr' a1).same s12
    obtain ⟨_, _, _, _, _, hok, _, l8⟩ := id hrow
    have hmrow := (row_at hm' a2).same s12
    obtain ⟨_, _, _, _, _, hok2, _, l82⟩ := id hmrow
    have mr := matR_sm30 hok l8
    have mm := matR_sm30 hok2 l82
    have sml := nl.2.1
    have zr := app_sm mr sml.1 sml.2
    have zm := app_sm mm sml.1 sml.2
    refine iteF ⟨_, rfl, vl, l, rfl, hl'.mono s12, a3, fun H3 p s3 hp => ?_⟩
    refine ⟨_, rfl, vr, rowOf r, rfl, hrow.same s3, fun H4 ar s4 har => ?_⟩
    refine ⟨_, rfl, ar, p, matR (rowOf r), prOf l, rfl, har, s4 _ _ hp, mr.mono (by decide), sml.1.mono (by decide), sml.2.mono (by decide), fun H5 pr s5 npr hpr => ?_⟩
    have s35 := (s3.trans s4).trans s5
    refine ⟨_, rfl, vm, rowOf m, rfl, hmrow.same s35, fun H6 am s6 ham => ?_⟩
    refine ⟨_, rfl, am, p, matR (rowOf m), prOf l, rfl, ham, ((s4.trans s5).trans s6) _ _ hp, mm.mono (by decide), sml.1.mono (by decide), sml.2.mono (by decide), fun H7 pm s7 npm hpm => ?_⟩
    refine ⟨pr, pm, _, _, rfl, (s6.trans s7) _ _ hpr, hpm, zr.1.mono (by decide), zr.2.mono (by decide), zm.1.mono (by decide), zm.2.mono (by decide), ?_⟩
    exact ⟨_, _, rfl, rfl, k _ (((s12.trans s35).trans s6).trans s7)⟩
end
end RL

set_option maxHeartbeats 4000000
namespace RL
open PySem L2 PySem.Spec PyProof.Rows
/-! ### never: the law -/
def nvL (S L W : Int) : Bool := decide (0 ≤ S) && (decide (0 ≤ W) && (decide (0 ≤ L) || decide (L * L ≤ 4 * S * W)))
theorem nv_nb (S L W : Int) : nvL S L W = nbB S L W := by
  unfold nvL nbB
  rw [Bool.eq_iff_iff]
  simp only [Bool.and_eq_true, Bool.or_eq_true, decide_eq_true_eq, far_lt]
  constructor
  · rintro ⟨s0, w0, h⟩
    refine ⟨?_, ?_⟩
    · rintro (h1 | h1 | ⟨h1, h2⟩)
      · omega
      · omega
      · rcases h2 with h2 | ⟨h2, h3⟩
        · rcases h with h | h
          · omega
          · rw [h1, Int.mul_zero, Int.zero_mul] at h
            have := Int.mul_pos_of_neg_of_neg h2 h2
            omega
        · omega
    · rcases h with h | h
      · exact .inr (.inl h)
      · exact .inr (.inr h)
  · rintro ⟨h1, h2⟩
    have w0 : 0 ≤ W := by
      rcases Int.lt_or_le W 0 with h | h
      · exact absurd (.inl h) h1
      · exact h
    have s0 : 0 ≤ S := by
      rcases Int.lt_or_le S 0 with h | h
      · exact absurd (.inr (.inl h)) h1
      · exact h
    refine ⟨s0, w0, ?_⟩
    rcases h2 with h | h | h
    · left
      have : S = 0 := by omega
      rcases Int.lt_or_le L 0 with g | g
      · exact absurd (.inr (.inr ⟨this, .inl g⟩)) h1
      · exact g
    · exact .inl h
    · exact .inr h
def spLNev : Sp := fun vs H Q _ => ∃ (v u : V) (r m : List Pc), vs = [v, u] ∧ RowT H v r ∧ RowT H u m ∧ ∀ H', Same H H' → Q (.bl (nbB (qS (matR m) (matR r)) (qL (matR m) (matR r)) (qW (matR m) (matR r)))) H'
theorem act_10 (r : List Pc) : actR r (1, 0) = ((matR r).a, (matR r).c) := by
  rw [← mat_app]
  unfold Mx.app
  ext <;> simp
theorem act_01 (r : List Pc) : actR r (0, 1) = ((matR r).b, (matR r).d) := by
  rw [← mat_app]
  unfold Mx.app
  ext <;> simp
theorem lit_pair {H H' : Hp} {v : V} {a b : Int} (h : Dn H H' v (.tuple [.int a, .int b])) : ∃ p, v = .ref p ∧ PairAt H' p (a, b) := by
  obtain ⟨p0, us, rfl, hp0, hus⟩ := Dr.tuple h
  obtain ⟨rfl⟩ : us = [.int a, .int b] := by
    match us, hus with
    | [x, y], hus =>
      have h1 := hus.inv.1.toInt
      have h2 := hus.inv.2.inv.1.toInt
      rw [h1, h2]
    | [], hus => exact absurd hus.1 (by simp)
    | [_], hus => exact absurd hus.1 (by simp)
    | _ :: _ :: _ :: _, hus => exact absurd hus.1 (by simp)
  exact ⟨p0, rfl, (fresh_get hp0).2⟩
section
variable {P : Program} {w : World} {K : PySem.W.Frag} {mg : Str → Option Value} {base : Heap} {tG t1 t3 tC tK : Tok} {aO aW aCh : Addr}
abbrev s_law_never : Stmt := top 89
theorem sc_law_never : FnScope ["_law_row", "_law_mate", "_law_a", "_law_c", "_law_b", "_law_d", "_law_p", "_law_r", "_law_q", "_law_s", "_law_lead", "_law_end", "_law_mid"] ["_law_row", "_law_mate"] (defScope s_law_never) := ⟨rfl, rfl, rfl, by decide +kernel, rfl, by decide +kernel, by decide +kernel⟩

theorem ok_lnev {f : Addr} {fd : FuncData} (F : Fun K "_law_never" "_law_never" s_law_never f fd) (D_law_led : Df P w K mg base 1 "_law_led" ["_law_row", "_law_pair"] spLed) : FnOk P w K mg base CX0 2 f fd ["_law_row", "_law_mate"] spLNev := by
  refine F.ok sc_law_never (fun vs H Q E h => ?_) (fun cdv A outer s H vs Q E hr h => ?_)
  · obtain ⟨v, u, r, m, rfl, _⟩ := h
    rfl
  · obtain ⟨v, u, r, m, rfl, hrow, hmrow, k⟩ := h
    refine ⟨_, (pss_cons (ps_asg (pe_df D_law_led (hr.mono (by decide)) (by rfl) (pa_cons (pv 0) (pa_cons (pd_tup (pds_cons pd_int (pds_cons pd_int pds_nil))) pa_nil))) (pg_tup rfl (pgs_cons (pg_name (i := 2) sc_law_never.nd rfl (.inl rfl)) (pgs_cons (pg_name (i := 3) sc_law_never.nd rfl (.inl rfl)) pgs_nil))))
      (pss_cons (ps_asg (pe_df D_law_led (hr.mono (by decide)) (by rfl) (pa_cons (pv 0) (pa_cons (pd_tup (pds_cons pd_int (pds_cons pd_int pds_nil))) pa_nil))) (pg_tup rfl (pgs_cons (pg_name (i := 4) sc_law_never.nd rfl (.inl rfl)) (pgs_cons (pg_name (i := 5) sc_law_never.nd rfl (.inl rfl)) pgs_nil))))
      (pss_cons (ps_asg (pe_df D_law_led (hr.mono (by decide)) (by rfl) (pa_cons (pv 1) (pa_cons (pd_tup (pds_cons pd_int (pds_cons pd_int pds_nil))) pa_nil))) (pg_tup rfl (pgs_cons (pg_name (i := 6) sc_law_never.nd rfl (.inl rfl)) (pgs_cons (pg_name (i := 7) sc_law_never.nd rfl (.inl rfl)) pgs_nil))))
      (pss_cons (ps_asg (pe_df D_law_led (hr.mono (by decide)) (by rfl) (pa_cons (pv 1) (pa_cons (pd_tup (pds_cons pd_int (pds_cons pd_int pds_nil))) pa_nil))) (pg_tup rfl (pgs_cons (pg_name (i := 8) sc_law_never.nd rfl (.inl rfl)) (pgs_cons (pg_name (i := 9) sc_law_never.nd rfl (.inl rfl)) pgs_nil))))
      (pss_cons (ps_par (by rfl) sc_law_never.nd (i := 10) (j := 11) rfl rfl (by decide) rfl rfl (pa_cons (pe_op op_sub (pe_op op_mulX (pv 6) (pv 3)) (pe_op op_mulX (pv 2) (pv 7))) (pa_cons (pe_op op_sub (pe_op op_mulX (pv 8) (pv 5)) (pe_op op_mulX (pv 4) (pv 9))) pa_nil)) (by rfl))
      (pss_cons (ps_set (i := 12) sc_law_never.nd rfl (.inl rfl) (pe_op op_sub (pe_op op_sub (pe_op op_add (pe_op op_mulX (pv 6) (pv 5)) (pe_op op_mulX (pv 8) (pv 3))) (pe_op op_mulX (pv 2) (pv 9))) (pe_op op_mulX (pv 4) (pv 7))))
      (pss_one (ps_ret (pe_and (pe_cmpR op_ge (pv 10) pe_int (nomark _)) (pe_and (pe_cmpR op_ge (pv 11) pe_int (nomark _)) (pe_one (pe_or (pe_cmpR op_ge (pv 12) pe_int (nomark _)) (pe_one (pe_cmpR op_le (pe_op op_mulX (pv 12) (pv 12)) (pe_op op_mulX (pe_op op_mul pe_int (pv 10)) (pv 11)) (nomark _))))))))))))))), ?_⟩
    obtain ⟨_, _, _, _, _, hok, _, l8⟩ := id hrow
    obtain ⟨_, _, _, _, _, hok2, _, l82⟩ := id hmrow
    have mr := matR_sm30 hok l8
    have mm := matR_sm30 hok2 l82
    have o1 : Sm 3900 1 := by unfold Sm; decide +kernel
    have o0 : Sm 3900 0 := by unfold Sm; decide +kernel
    refine ⟨_, rfl, ?_⟩
    intro H1 v1 s1 h1
    obtain ⟨p1, rfl, hp1⟩ := lit_pair h1
    refine ⟨v, p1, r, (1, 0), rfl, hrow.same s1, hp1, o1, o0, fun H2 q2 s2 nq2 hq2 => ?_⟩
    rw [act_10] at hq2
    have sA := s1.trans s2
    refine ⟨q2, _, rfl, SqT.of hq2, rfl, _, _, rfl, _, _, rfl, rfl, ?_⟩
    refine ⟨_, rfl, ?_⟩
    intro H3 v3 s3 h3
    obtain ⟨p3, rfl, hp3⟩ := lit_pair h3
    refine ⟨v, p3, r, (0, 1), rfl, hrow.same (sA.trans s3), hp3, o0, o1, fun H4 q4 s4 nq4 hq4 => ?_⟩
    rw [act_01] at hq4
    have sB := (sA.trans s3).trans s4
    refine ⟨q4, _, rfl, SqT.of hq4, rfl, _, _, rfl, _, _, rfl, rfl, ?_⟩
    refine ⟨_, rfl, ?_⟩
    intro H5 v5 s5 h5
    obtain ⟨p5, rfl, hp5⟩ := lit_pair h5
    refine ⟨u, p5, m, (1, 0), rfl, hmrow.same (sB.trans s5), hp5, o1, o0, fun H6 q6 s6 nq6 hq6 => ?_⟩
    rw [act_10] at hq6
    have sC := (sB.trans s5).trans s6
    refine ⟨q6, _, rfl, SqT.of hq6, rfl, _, _, rfl, _, _, rfl, rfl, ?_⟩
    refine ⟨_, rfl, ?_⟩
    intro H7 v7 s7 h7
    obtain ⟨p7, rfl, hp7⟩ := lit_pair h7
    refine ⟨u, p7, m, (0, 1), rfl, hmrow.same (sC.trans s7), hp7, o0, o1, fun H8 q8 s8 nq8 hq8 => ?_⟩
    rw [act_01] at hq8
    have sD := (sC.trans s7).trans s8
    refine ⟨q8, _, rfl, SqT.of hq8, rfl, _, _, rfl, _, _, rfl, rfl, ?_⟩
    have k := k _ sD
    obtain ⟨z1, z2, z3⟩ := q_sm mm mr
    rw [← nv_nb] at k
    obtain ⟨a, b, c, d⟩ := mm
    obtain ⟨a', b', c', d'⟩ := mr
    unfold qS qL qW at *
    generalize (matR r).a = ra at *
    generalize (matR r).b = rb at *
    generalize (matR r).c = rc at *
    generalize (matR r).d = rd at *
    generalize (matR m).a = ma at *
    generalize (matR m).b = mb at *
    generalize (matR m).c = mc at *
    generalize (matR m).d = md at *
    refine ⟨_, rfl, _, rfl, _, _, rfl, rfl, mx a c', _, rfl, _, rfl, _, _, rfl, rfl, mx a' c, _, _, rfl, rfl, ?_⟩
    refine ⟨_, rfl, _, rfl, _, _, rfl, rfl, mx b d', _, rfl, _, rfl, _, _, rfl, rfl, mx b' d, _, _, rfl, rfl, ?_⟩
    refine ⟨_, _, rfl, ?_⟩
    refine ⟨_, rfl, _, rfl, _, _, rfl, rfl, mx a d', _, rfl, _, rfl, _, _, rfl, rfl, mx b c', _, _, rfl, rfl, _, rfl, _, rfl, _, _, rfl, rfl, mx a' d, _, _, rfl, rfl, _, rfl, _, rfl, _, _, rfl, rfl, mx b' c, _, _, rfl, rfl, ?_⟩
    unfold nvL at k
    dsimp only
    generalize hS : ma * rc - ra * mc = S at *
    generalize hW : mb * rd - rb * md = W at *
    generalize hL : ma * rd + mb * rc - ra * md - rb * mc = L at *
    have four : Sm 3 4 := by unfold Sm; decide
    refine ⟨_, rfl, _, _, rfl, rfl, _, rfl, ite2 (fun g1 => ?_) (fun g1 => ?_)⟩
    · rw [show decide (0 ≤ S) = true from g1, Bool.true_and] at k
      refine ⟨_, rfl, _, _, rfl, rfl, _, rfl, ite2 (fun g2 => ?_) (fun g2 => ?_)⟩
      · rw [show decide (0 ≤ W) = true from g2, Bool.true_and] at k
        refine ⟨_, rfl, _, _, rfl, rfl, _, rfl, ite2 (fun g3 => ?_) (fun g3 => ?_)⟩
        · rw [show decide (0 ≤ L) = true from g3, Bool.true_or] at k
          exact k
        · rw [show decide (0 ≤ L) = false from Bool.eq_false_iff.mpr g3, Bool.false_or] at k
          exact ⟨_, rfl, _, rfl, _, _, rfl, rfl, mx z2 z2, _, rfl, _, _, rfl, rfl, .inl ⟨by decide, by decide⟩, _, rfl, _, _, rfl, rfl, mx (four.mul z1) z3, _, _, rfl, rfl, k⟩
      · rw [show decide (0 ≤ W) = false from Bool.eq_false_iff.mpr g2, Bool.false_and] at k
        exact k
    · rw [show decide (0 ≤ S) = false from Bool.eq_false_iff.mpr g1, Bool.false_and] at k
      exact k
end
end RL

set_option maxHeartbeats 4000000
namespace RL
open PySem L2 PySem.Spec PyProof.Rows
/-! ### the law's own root -/
theorem dbl {g w : Int} (h : 0 ≤ w) (l : g * g ≤ w) : g ≤ w := by
  rcases Int.lt_or_le w g with z | z
  · have : g * 1 ≤ g * g := Int.mul_le_mul_of_nonneg_left (by omega) (by omega)
    omega
  · exact z
def spIsq : Sp := fun vs H Q _ => ∃ n : Int, vs = [.int n] ∧ 0 ≤ n ∧ Sm 3900 n ∧ ∀ H' g, Same H H' → 0 ≤ g → g * g ≤ n → n < (g + 1) * (g + 1) → Q (.int g) H'
section
variable {P : Program} {w : World} {K : PySem.W.Frag} {mg : Str → Option Value} {base : Heap} {tG t1 t3 tC tK : Tok} {aO aW aCh : Addr}
abbrev s_law_isqrt : Stmt := top 90
theorem sc_law_isqrt : FnScope ["_law_number", "_law_root", "_law_part"] ["_law_number"] (defScope s_law_isqrt) := ⟨rfl, rfl, rfl, by decide +kernel, rfl, by decide +kernel, by decide +kernel⟩

theorem ok_isq {f : Addr} {fd : FuncData} (F : Fun K "_law_isqrt" "_law_isqrt" s_law_isqrt f fd) : FnOk P w K mg base CX0 1 f fd ["_law_number"] spIsq := by
  refine F.ok sc_law_isqrt (fun vs H Q E h => ?_) (fun cdv A outer s H vs Q E hr h => ?_)
  · obtain ⟨n, rfl, _⟩ := h
    rfl
  · obtain ⟨n, rfl, n0, ns, k⟩ := h
    refine ⟨_, (pss_cons (ps_asg (pe_tup (pa_cons pe_int (pa_cons pe_int pa_nil))) (pg_tup rfl (pgs_cons (pg_name (i := 1) sc_law_isqrt.nd rfl (.inl rfl)) (pgs_cons (pg_name (i := 2) sc_law_isqrt.nd rfl (.inl rfl)) pgs_nil))))
      (pss_cons (ps_while PassesOwn.never (pt_cmpR op_le (pe_op op_mulX (pv 2) (pv 2)) (pv 0) (nomark _)) (pss_one (ps_set (i := 2) sc_law_isqrt.nd rfl (.inl rfl) (pe_op op_mul pe_int (pv 2)))))
      (pss_cons (ps_while PassesOwn.never (pt_cmpR op_gt (pv 2) pe_int (nomark _)) (pss_cons (ps_if (pt_cmpR op_le (pe_op op_mulX (pe_op op_add (pv 1) (pv 2)) (pe_op op_add (pv 1) (pv 2))) (pv 0) (nomark _)) (pss_one (ps_set (i := 1) sc_law_isqrt.nd rfl (.inl rfl) (pe_op op_add (pv 1) (pv 2)))) pss_nil)
      (pss_one (ps_set (i := 2) sc_law_isqrt.nd rfl (.inl rfl) (pe_op op_fdivW (pv 2) pe_int)))))
      (pss_one (ps_ret (pv 1)))))), ?_⟩
    refine ⟨(by show 2 ≤ sizeLine; decide), fun p hp => ⟨p, _, rfl, SqT.of upd_same, rfl, _, _, rfl, _, _, rfl, rfl, ?_⟩⟩
    have sm : Same H (upd H p (.tup [.int 0, .int 1])) := same_upd hp
    have two : Sm 2 2 := by unfold Sm; decide
    refine while_by (fun σ H' => H' = upd H p (.tup [.int 0, .int 1]) ∧ ∃ o : Int, σ = [some (.int n), some (.int 0), some (.int o)] ∧ (∃ q : Nat, o = 2 ^ q) ∧ 1 ≤ o ∧ o ≤ 2 * n + 1 ∧ Sm 4002 o) (fun σ _ => match σ with | [_, _, some (.int o)] => (2 * n + 2 - o).toNat | _ => 0) ⟨rfl, 1, rfl, ⟨0, rfl⟩, by decide, by omega, ?_⟩ ?_ ?_
    · unfold Sm
      exact Nat.lt_of_lt_of_le (by decide : (1 : Int).natAbs < 2 ^ 1) (Nat.pow_le_pow_right (by decide) (by decide))
    · rintro σ H' ⟨rfl, o, rfl, ⟨q, hq⟩, o1, o2, os⟩
      refine ⟨_, rfl, _, rfl, _, _, rfl, rfl, mx os os, _, rfl, _, _, rfl, rfl, _, rfl, ite2 (fun e => ?_) (fun e => ?_)⟩
      · have e0 : o * o ≤ n := of_decide_eq_true e
        have e1 := dbl n0 e0
        refine ⟨_, rfl, _, _, rfl, rfl, .inl ⟨by decide, by decide⟩, ⟨rfl, _, rfl, ⟨q + 1, by rw [hq, Int.pow_succ, Int.mul_comm]⟩, by omega, by omega, ?_⟩, ?_⟩
        · have s1 : Sm 3900 o := ns.of (by omega) e1
          exact (two.mul s1).mono (by decide)
        · show (2 * n + 2 - 2 * o).toNat < (2 * n + 2 - o).toNat
          omega
      · have e0 : ¬ o * o ≤ n := fun z => e (decide_eq_true z)
        refine while_by (fun σ H' => H' = upd H p (.tup [.int 0, .int 1]) ∧ ∃ l o : Int, σ = [some (.int n), some (.int l), some (.int o)] ∧ 0 ≤ l ∧ l * l ≤ n ∧ Sm 4002 o ∧ ((o = 0 ∧ n < (l + 1) * (l + 1)) ∨ ((∃ q : Nat, o = 2 ^ q) ∧ 1 ≤ o ∧ n < (l + 2 * o) * (l + 2 * o)))) (fun σ _ => match σ with | [_, _, some (.int o)] => o.toNat | _ => 0) ⟨rfl, 0, o, rfl, by decide, by omega, os, .inr ⟨⟨q, hq⟩, o1, ?_⟩⟩ ?_ ?_
        · rw [Int.zero_add]
          have : o * o ≤ 2 * o * (2 * o) := Int.mul_le_mul (by omega) (by omega) (by omega) (by omega)
          omega
        · rintro σ H' ⟨rfl, l, o, rfl, l0, hl, os, ho⟩
          have lsm : Sm 3900 l := ns.of (by omega) (dbl n0 hl)
          refine ⟨_, rfl, _, _, rfl, rfl, _, rfl, ite2 (fun e => ?_) (fun e => ?_)⟩
          · have e0 : 0 < o := of_decide_eq_true e
            rcases ho with ⟨z, _⟩ | ⟨⟨q, hq⟩, o1, hn⟩
            · omega
            have so : Sm 4003 (l + o) := ((lsm.mono (by decide)).add os)
            -- what is left is half as much
            have half : ∀ g : Int, 0 ≤ g → g * g ≤ n → n < (g + o) * (g + o) → ((0 ≤ g ∧ g * g ≤ n ∧ Sm 4002 (o / 2) ∧ ((o / 2 = 0 ∧ n < (g + 1) * (g + 1)) ∨ ((∃ q : Nat, o / 2 = 2 ^ q) ∧ 1 ≤ o / 2 ∧ n < (g + 2 * (o / 2)) * (g + 2 * (o / 2))))) ∧ (o / 2).toNat < o.toNat) := fun g g0 hg hgo => by
              refine ⟨⟨g0, hg, os.of (by omega) (by omega), ?_⟩, by omega⟩
              cases q with
              | zero =>
                have : o = 1 := hq
                subst this
                exact .inl ⟨by decide, hgo⟩
              | succ q =>
                have h2 : o = 2 * 2 ^ q := by rw [hq, Int.pow_succ, Int.mul_comm]
                have h3 : o / 2 = 2 ^ q := by omega
                refine .inr ⟨⟨q, h3⟩, by omega, ?_⟩
                have : 2 * (o / 2) = o := by omega
                rw [this]
                exact hgo
            refine ⟨_, rfl, _, rfl, _, _, rfl, rfl, _, rfl, _, rfl, _, _, rfl, rfl, _, _, rfl, rfl, mx so so, _, rfl, _, _, rfl, rfl, _, rfl, ite2 (fun e3 => ?_) (fun e3 => ?_)⟩
            · have e4 : (l + o) * (l + o) ≤ n := of_decide_eq_true e3
              obtain ⟨a, b⟩ := half (l + o) (by omega) e4 (by rw [show l + o + o = l + 2 * o by omega]; exact hn)
              refine ⟨_, rfl, _, rfl, _, _, rfl, rfl, ?_⟩
              refine ⟨_, rfl, _, _, rfl, rfl, dvw (b := 3) (by decide) (by unfold Sm; decide), ⟨rfl, _, _, rfl, a⟩, b⟩
            · have e4 : ¬ (l + o) * (l + o) ≤ n := fun z => e3 (decide_eq_true z)
              obtain ⟨a, b⟩ := half l l0 hl (by omega)
              refine ⟨_, rfl, _, _, rfl, rfl, dvw (b := 3) (by decide) (by unfold Sm; decide), ⟨rfl, _, _, rfl, a⟩, b⟩
          · have e0 : ¬ 0 < o := fun z => e (decide_eq_true z)
            rcases ho with ⟨z, hn⟩ | ⟨_, o1, _⟩
            · exact ⟨_, rfl, k _ l sm l0 hl hn⟩
            · omega
        · rintro σ H' Q1 Q2 hq h
          obtain ⟨v, e1, i, j, e2, e3, z⟩ := h
          exact ⟨v, e1, i, j, e2, e3, z.imp fun k z => ⟨z.1, hq _ _ z.2⟩⟩
    · rintro σ H' Q1 Q2 hq h
      obtain ⟨v, e1, v2, e2, i, j, e3, e4, cm, v3, e5, i2, j2, e6, e7, z⟩ := h
      exact ⟨v, e1, v2, e2, i, j, e3, e4, cm, v3, e5, i2, j2, e6, e7, z.imp fun k z => ⟨z.1, hq _ _ z.2⟩⟩
end
end RL

set_option maxHeartbeats 4000000
namespace RL
open PySem L2 PySem.Spec PyProof.Rows
structure TxtX (K : PySem.W.Frag) (mg : Str → Option Value) (w : World) (tG t1 t3 tC tK tP : Tok) (aO aW aCh Ce : Addr) : Prop extends TxtA K mg w tG t1 t3 tC tK aO aW aCh where
  mgP : mg "GREATEST_PART" = some (.int 10000000000000000000000000000000000000000 tP)
  mgE : mg "Exact" = some (.ref Ce)
  clE : Cls K Ce
  nP : NoAttr K Ce "parts"
def spRoot : Sp := fun vs H Q _ => ∃ n : Int, vs = [.int n] ∧ 0 ≤ n ∧ Sm 4000 n ∧ ∀ H', Same H H' → Q (.int (rt n)) H'
def spUnder : Sp := fun vs H Q _ => ∃ s l w : Int, vs = [.int s, .int l, .int w] ∧ Sm 1000 s ∧ Sm 1000 l ∧ Sm 1000 w ∧ Q (.int (l * l + 4 * s * w)) H
def spEqF : Sp := fun vs H Q _ => ∃ (t b : Int), vs = [.int t, .int b] ∧ Pos2 (t, b) ∧ Sm 4000 t ∧ Sm 4000 b ∧
  ∀ H' p, Same H H' → H p = none → H' p = some (.tup [.int 0, .int (b / gc t b), .int (t / gc t b)]) → Q (.ref p) H'
def spSimp : Sp := fun vs H Q _ => ∃ a b c : Int, vs = [.int a, .int b, .int c] ∧ Good a b c ∧ Sm 133 a ∧ Sm 133 b ∧ Sm 133 c ∧
  ∀ H' p, Same H H' → H p = none → H' p = some (.tup [.int (parts a b c).1, .int (parts a b c).2.1, .int (parts a b c).2.2]) → Q (.ref p) H'
theorem sm12 {i : Int} (h1 : 0 ≤ i) (h2 : i ≤ 1000000000000) : Sm 1000 i := by
  have e : (10 : Int) ^ 40 = 10000000000000000000000000000000000000000 := by decide
  exact (sm40 (x := i) (by omega) (by omega)).mono (by decide)
def ExAt (C : Addr) (H : Hp) (x : Addr) (s l w : Int) : Prop := ∃ dx p : Addr, H x = some (.ins C dx [("parts", .ref p)]) ∧ H p = some (.tup [.int s, .int l, .int w])
def Big (a b c : Int) : Prop := Good a b c ∧ a ≤ 10000000000000000000000000000000000000000 ∧ -10000000000000000000000000000000000000000 ≤ b ∧ b ≤ 10000000000000000000000000000000000000000 ∧ c ≤ 10000000000000000000000000000000000000000
theorem Big.sm {a b c : Int} (h : Big a b c) : Sm 133 a ∧ Sm 133 b ∧ Sm 133 c := by
  obtain ⟨g, h1, h2, h3, h4⟩ := h
  have e : (10 : Int) ^ 40 = 10000000000000000000000000000000000000000 := by decide
  have a0 : 0 ≤ a ∧ 0 ≤ c := by
    rcases g with g | g <;> omega
  exact ⟨sm40 (by omega) (by omega), sm40 (by omega) (by omega), sm40 (by omega) (by omega)⟩
def spInit (C : Addr) : Sp := fun vs H Q _ => ∃ (x dx : Addr) (a b c : Int), vs = [.ref x, .int a, .int b, .int c] ∧ H x = some (.ins C dx []) ∧ Big a b c ∧
  ∀ H' : Hp, But x H H' → ExAt C H' x (parts a b c).1 (parts a b c).2.1 (parts a b c).2.2 → Q .non H'
def spEqn (C : Addr) : Sp := fun vs H Q _ => ∃ (x dx p : Addr), vs = [.ref x] ∧ H x = some (.ins C dx [("parts", .ref p)]) ∧ Q (.ref p) H
/-! ### a new Exact, by position and by keywords -/
structure ExD (P : Program) (w : World) (K : PySem.W.Frag) (mg : Str → Option Value) (base : Heap) (C : Addr) : Prop where
  ex : ∃ (fI : Addr) (fdI : FuncData), Mk K C fI ∧ FnOk P w K mg base CX0 5 fI fdI ["self", "square", "line", "whole"] (spInit C) ∧ Binds K fdI ["self", "square", "line", "whole"] []
theorem pe_exact {X : Cx} {C : Addr} {p pos : Pos} {e : Expr} {es : List Expr} {t : TA} (D : ExD X.prog X.w X.K X.mg X.base C) (hr : Room 6 X.A) (hg : Gl X "Exact") (hm : X.mg "Exact" = some (.ref C))
    (ha : PA X (e :: es) t) (he : starEach (e :: es) X.env = (false, eval e X.env) :: starEach es X.env := by rfl) (hpl : (backTo pos (starEach es X.env)).any (·.1) = false := by rfl) :
    PE X (.Call (.Name "Exact" p) (e :: es) [] pos) (tMake C (spInit C) [] E0 t) := by
  obtain ⟨fI, fdI, M, G, hb⟩ := D.ex
  exact pe_make M G hr hg hm hb .nil pass0 ha (by decide) he hpl
theorem ExAt.same {C x : Addr} {H H' : Hp} {s l w : Int} (h : ExAt C H x s l w) (sm : Same H H') : ExAt C H' x s l w := by
  obtain ⟨dx, p, a, b⟩ := h
  exact ⟨dx, p, sm _ _ a, sm _ _ b⟩
def LimAt (aO Ce : Addr) (H : Hp) (v : V) (r : List Pc) : Prop := ((matR r).c = 0 ∧ v = .ref aO) ∨ ((matR r).c ≠ 0 ∧ ∃ x, v = .ref x ∧ ExAt Ce H x (eqL r).1 (eqL r).2.1 (eqL r).2.2)
def spLim (aO Ce : Addr) : Sp := fun vs H Q _ => ∃ (a : Addr) (r : List Pc), vs = [.ref a] ∧ H a = some (.tup (MatT (matR r))) ∧ RowOk r ∧ r.length ≤ 8 ∧ ∀ H' v, Same H H' → LimAt aO Ce H' v r → Q v H'
def spEqT (Ce : Addr) : Sp := fun vs H Q _ => ∃ (x p dx : Addr) (fs : List (Str × V)) (e : Int × Int), vs = [.ref x, .ref p] ∧ H x = some (.ins Ce dx fs) ∧ PairAt H p e ∧ Q (.bl false) H
theorem parts010 : parts 0 1 0 = (0, 1, 0) := by decide
theorem make_lim {aO Ce : Addr} {H : Hp} {r : List Pc} {a b c : Int} {Q : V → Hp → Prop} (hB : Big a b c) (hc : (matR r).c ≠ 0) (he : eqL r = parts a b c) (k : ∀ H' v, Same H H' → LimAt aO Ce H' v r → Q v H') :
    ∀ z dz, H z = none → H dz = none → dz ≠ z → spInit Ce [.ref z, .int a, .int b, .int c] (upd (upd H dz (.own z)) z (.ins Ce dz [])) (fun v H3 => v = .non ∧ Q (.ref z) H3) E0 := by
  intro z dz nz ndz nez
  refine ⟨z, dz, a, b, c, rfl, upd_same, hB, fun H' bz hE => ⟨rfl, k H' _ (fun b' o e => ?_) (.inr ⟨hc, z, rfl, ?_⟩)⟩⟩
  · refine bz _ _ (ne_of_none e nz) ?_
    rw [upd_ne (ne_of_none e nz), upd_ne (ne_of_none e ndz)]
    exact e
  · rw [he]
    exact hE
section
variable {P : Program} {w : World} {K : PySem.W.Frag} {mg : Str → Option Value} {base : Heap} {tG t1 t3 tC tK tP : Tok} {aO aW aCh Ce : Addr}
theorem pow_up {a b : Nat} (h : a ≤ b) : (2 : Int) ^ a ≤ 2 ^ b := by
  have := Nat.pow_le_pow_right (n := 2) (by decide) h
  have e : ∀ k : Nat, ((2 ^ k : Nat) : Int) = 2 ^ k := fun k => by rw [Int.natCast_pow]; rfl
  rw [← e, ← e]
  omega
theorem bits_lt {n : Int} (h : 0 ≤ n) : n < 2 ^ (Builtin.Int.intBits n) := by
  unfold Builtin.Int.intBits
  by_cases z : n = 0
  · subst z
    decide
  · rw [if_neg (by simpa using z)]
    have := Nat.lt_log2_self (n := n.natAbs)
    have e : ((2 ^ (n.natAbs.log2 + 1) : Nat) : Int) = 2 ^ (n.natAbs.log2 + 1) := by rw [Int.natCast_pow]; rfl
    rw [← e]
    omega
theorem bits_le {n : Int} {m : Nat} (h : Sm m n) : Builtin.Int.intBits n ≤ m := PyProof.Rows.intBits_le h
abbrev s_square_root : Stmt := top 19
theorem sc_square_root : FnScope ["number", "guess"] ["number"] (defScope s_square_root) := ⟨rfl, rfl, rfl, by decide +kernel, rfl, by decide +kernel, by decide +kernel⟩

theorem ok_sqrt {f : Addr} {fd : FuncData} (F : Fun K "square_root" "square_root" s_square_root f fd) : FnOk P w K mg base CX0 1 f fd ["number"] spRoot := by
  refine F.ok sc_square_root (fun vs H Q E h => ?_) (fun cdv A outer s H vs Q E hr h => ?_)
  · obtain ⟨n, rfl, _⟩ := h
    rfl
  · obtain ⟨n, rfl, n0, ns, k⟩ := h
    refine ⟨_, (pss_cons (ps_set (i := 1) sc_square_root.nd rfl (.inl rfl) (pe_op op_oneShl pe_int (pe_op op_fdivW (pe_op op_add (pe_bits (pv 0)) pe_int) pe_int)))
      (pss_cons (ps_while PassesOwn.never (pt_cmpR op_gt (pe_op op_mulX (pv 1) (pv 1)) (pv 0) (nomark _)) (pss_one (ps_set (i := 1) sc_square_root.nd rfl (.inl rfl) (pe_op op_fdivW (pe_op op_add (pv 1) (pe_op op_fdivW (pv 0) (pv 1))) pe_int))))
      (pss_one (ps_ret (pv 1))))), ?_⟩
    have hb := bits_le ns
    have hl := bits_lt n0
    refine ⟨_, rfl, n, rfl, _, _, rfl, rfl, _, _, rfl, rfl, dvw (b := 3) (by decide) (by unfold Sm; decide), ?_⟩
    have ek : ((Builtin.Int.intBits n : Nat) + 1 : Int) / 2 = (((Builtin.Int.intBits n + 1) / 2 : Nat) : Int) := by omega
    generalize Builtin.Int.intBits n = b at *
    refine ⟨(b + 1) / 2, rfl, congrArg V.int ek, (by omega), ?_⟩
    have ks : (b + 1) / 2 ≤ 2000 := by omega
    have kb : b ≤ (b + 1) / 2 + (b + 1) / 2 := by omega
    generalize (b + 1) / 2 = q at *
    have p0 : (0 : Int) < 2 ^ q := Int.pow_pos (by decide)
    have hp : n < 2 ^ q * 2 ^ q := by
      rw [← Int.pow_add]
      exact Int.lt_of_lt_of_le hl (pow_up kb)
    have gs : Sm 2001 (2 ^ q) := by
      unfold Sm
      rw [Int.natAbs_pow]
      exact Nat.pow_lt_pow_right (by decide) (by omega)
    refine while_by (fun σ H' => H' = H ∧ ∃ g : Int, σ = [some (.int n), some (.int g)] ∧ 0 ≤ g ∧ n < (g + 1) * (g + 1) ∧ Sm 2001 g) (fun σ _ => match σ with | [_, some (.int g)] => g.toNat | _ => 0) ⟨rfl, 2 ^ q, rfl, by omega, ?_, gs⟩ ?_ ?_
    · have e : ((2 : Int) ^ q + 1) * (2 ^ q + 1) = 2 ^ q * 2 ^ q + 2 * 2 ^ q + 1 := by
        generalize (2 : Int) ^ q = u
        grind
      omega
    · rintro σ H' ⟨rfl, g, rfl, g0, g1, gs⟩
      refine ⟨_, rfl, _, rfl, _, _, rfl, rfl, mx gs gs, _, rfl, _, _, rfl, rfl, _, rfl, ite2 (fun e => ?_) (fun e => ?_)⟩
      · have e0 : n < g * g := of_decide_eq_true e
        obtain ⟨h1, h2, h3, h4⟩ := newton n0 g0 g1 e0
        refine ⟨_, rfl, _, rfl, _, rfl, _, _, rfl, rfl, dvw h1 gs, _, _, rfl, rfl, _, _, rfl, rfl, dvw (b := 3) (by decide) (by unfold Sm; decide), ⟨rfl, _, rfl, h2, h4, gs.of (by omega) (by omega)⟩, ?_⟩
        show ((g + n / g) / 2).toNat < g.toNat
        omega
      · have e0 : ¬ n < g * g := fun z => e (decide_eq_true z)
        refine ⟨_, rfl, ?_⟩
        rw [rt_of ⟨g0, by omega, g1⟩]
        exact k _ (Same.refl _)
    · rintro σ H' Q1 Q2 hq h
      obtain ⟨v, e1, v2, e2, i, j, e3, e4, cm, v3, e5, i2, j2, e6, e7, z⟩ := h
      exact ⟨v, e1, v2, e2, i, j, e3, e4, cm, v3, e5, i2, j2, e6, e7, z.imp fun k z => ⟨z.1, hq _ _ z.2⟩⟩
abbrev s_under_root : Stmt := top 31
theorem sc_under_root : FnScope ["square", "line", "whole"] ["square", "line", "whole"] (defScope s_under_root) := ⟨rfl, rfl, rfl, by decide +kernel, rfl, by decide +kernel, by decide +kernel⟩

theorem ok_under {f : Addr} {fd : FuncData} (F : Fun K "under_root" "under_root" s_under_root f fd) : FnOk P w K mg base CX0 1 f fd ["square", "line", "whole"] spUnder := by
  refine F.ok sc_under_root (fun vs H Q E h => ?_) (fun cdv A outer s H vs Q E hr h => ?_)
  · obtain ⟨a, b, c, rfl, _⟩ := h
    rfl
  · obtain ⟨a, b, c, rfl, ha, hb, hc, k⟩ := h
    refine ⟨_, (pss_one (ps_ret (pe_op op_add (pe_op op_mulX (pv 1) (pv 1)) (pe_op op_mulX (pe_op op_mul pe_int (pv 0)) (pv 2))))), ?_⟩
    have h4 : Sm 1003 (4 * a) := Sm.mul (m := 3) (n := 1000) (x := 4) (by unfold Sm; decide) ha
    exact ⟨_, rfl, _, rfl, _, _, rfl, rfl, mx hb hb, _, rfl, _, _, rfl, rfl, .inl ⟨by decide, by decide⟩, _, rfl, _, _, rfl, rfl, mx h4 hc, _, _, rfl, rfl, k⟩
abbrev s_equation_of_fraction : Stmt := top 33
theorem sc_equation_of_fraction : FnScope ["top", "bottom", "top_part", "bottom_part"] ["top", "bottom"] (defScope s_equation_of_fraction) := ⟨rfl, rfl, rfl, by decide +kernel, rfl, by decide +kernel, by decide +kernel⟩

theorem ok_eqf {f : Addr} {fd : FuncData} (F : Fun K "equation_of_fraction" "equation_of_fraction" s_equation_of_fraction f fd) (D_lowest_terms : Df P w K mg base 2 "lowest_terms" ["top", "bottom"] spLow) : FnOk P w K mg base CX0 3 f fd ["top", "bottom"] spEqF := by
  refine F.ok sc_equation_of_fraction (fun vs H Q E h => ?_) (fun cdv A outer s H vs Q E hr h => ?_)
  · obtain ⟨t, b, rfl, _⟩ := h
    rfl
  · obtain ⟨t, b, rfl, tb, ts, bs, k⟩ := h
    refine ⟨_, (pss_cons (ps_asg (pe_df D_lowest_terms (hr.mono (by decide)) (by rfl) (pa_cons (pv 0) (pa_cons (pv 1) pa_nil))) (pg_tup rfl (pgs_cons (pg_name (i := 2) sc_equation_of_fraction.nd rfl (.inl rfl)) (pgs_cons (pg_name (i := 3) sc_equation_of_fraction.nd rfl (.inl rfl)) pgs_nil))))
      (pss_one (ps_ret (pe_tup (pa_cons pe_int (pa_cons (pv 3) (pa_cons (pv 2) pa_nil))))))), ?_⟩
    refine ⟨_, rfl, _, rfl, t, b, rfl, tb, ts, bs, fun H1 p sm np hp => ?_⟩
    refine ⟨p, _, rfl, SqT.of hp, rfl, _, _, rfl, _, _, rfl, rfl, ?_⟩
    exact ⟨_, rfl, _, rfl, (by show 3 ≤ sizeLine; decide), fun q hq => k _ q (sm.trans (same_upd hq)) (sm.free hq) upd_same⟩
abbrev s_simplest_equation : Stmt := top 32
theorem sc_simplest_equation : FnScope ["square", "line", "whole", "inside", "root", "divisor"] ["square", "line", "whole"] (defScope s_simplest_equation) := ⟨rfl, rfl, rfl, by decide +kernel, rfl, by decide +kernel, by decide +kernel⟩

theorem ok_simp {f : Addr} {fd : FuncData} (F : Fun K "simplest_equation" "simplest_equation" s_simplest_equation f fd) (D_common_divisor : Df P w K mg base 1 "common_divisor" ["first", "second"] spGcd) (D_square_root : Df P w K mg base 1 "square_root" ["number"] spRoot)
    (D_under_root : Df P w K mg base 1 "under_root" ["square", "line", "whole"] spUnder) (D_equation_of_fraction : Df P w K mg base 3 "equation_of_fraction" ["top", "bottom"] spEqF) : FnOk P w K mg base CX0 4 f fd ["square", "line", "whole"] spSimp := by
  refine F.ok sc_simplest_equation (fun vs H Q E h => ?_) (fun cdv A outer s H vs Q E hr h => ?_)
  · obtain ⟨a, b, c, rfl, _⟩ := h
    rfl
  · obtain ⟨a, b, c, rfl, hG, ha, hb, hc, k⟩ := h
    refine ⟨_, (pss_cons (ps_if (pt_cmpR op_eq (pv 0) pe_int (nomark _)) (pss_one (ps_ret (pe_df D_equation_of_fraction (hr.mono (by decide)) (by rfl) (pa_cons (pv 2) (pa_cons (pv 1) pa_nil))))) pss_nil)
      (pss_cons (ps_set (i := 3) sc_simplest_equation.nd rfl (.inl rfl) (pe_df D_under_root (hr.mono (by decide)) (by rfl) (pa_cons (pv 0) (pa_cons (pv 1) (pa_cons (pv 2) pa_nil)))))
      (pss_cons (ps_set (i := 4) sc_simplest_equation.nd rfl (.inl rfl) (pe_df D_square_root (hr.mono (by decide)) (by rfl) (pa_cons (pv 3) pa_nil)))
      (pss_cons (ps_if (pt_cmpR op_eq (pe_op op_mulX (pv 4) (pv 4)) (pv 3) (nomark _)) (pss_one (ps_ret (pe_df D_equation_of_fraction (hr.mono (by decide)) (by rfl) (pa_cons (pe_op op_sub (pv 4) (pv 1)) (pa_cons (pe_op op_mul pe_int (pv 0)) pa_nil))))) pss_nil)
      (pss_cons (ps_set (i := 5) sc_simplest_equation.nd rfl (.inl rfl) (pe_df D_common_divisor (hr.mono (by decide)) (by rfl) (pa_cons (pe_df D_common_divisor (hr.mono (by decide)) (by rfl) (pa_cons (pv 0) (pa_cons (pv 1) pa_nil))) (pa_cons (pv 2) pa_nil))))
      (pss_one (ps_ret (pe_tup (pa_cons (pe_op op_fdivW (pv 0) (pv 5)) (pa_cons (pe_op op_fdivW (pv 1) (pv 5)) (pa_cons (pe_op op_fdivW (pv 2) (pv 5)) pa_nil))))))))))), ?_⟩
    unfold parts at k
    refine ⟨_, rfl, rfl, _, rfl, ite2 (fun e => ?_) (fun e => ?_)⟩
    · have a0 : a = 0 := V.int.inj (of_decide_eq_true e)
      rw [if_pos a0] at k
      have b0 : 1 ≤ b ∧ 0 ≤ c := by
        rcases hG with z | z
        · exact z.2
        · omega
      exact ⟨_, rfl, _, rfl, c, b, rfl, ⟨b0.2, by show 0 ≤ b; omega, .inr (by show 0 < b; omega)⟩, hc.mono (by decide), hb.mono (by decide), k⟩
    · have a0 : ¬ a = 0 := fun z => e (decide_eq_true (congrArg V.int z))
      rw [if_neg a0] at k
      have hg : 1 ≤ a ∧ 1 ≤ c := by
        rcases hG with z | z
        · exact absurd z.1 a0
        · exact z
      have ip := inside_pos (b := b) hg
      have hd : Sm 270 (b * b + 4 * a * c) := by
        have h4 : Sm 3 4 := by unfold Sm; decide
        have e1 : Sm (133 + 133) (b * b) := hb.mul hb
        have e2 : Sm (3 + 133 + 133) (4 * a * c) := (h4.mul ha).mul hc
        exact (Sm.add (n := 269) (e1.mono (by decide)) (e2.mono (by decide)))
      have hr0 : Sm 135 (rt (b * b + 4 * a * c)) := rt_sm (n := 135) ip.2 hd
      refine ⟨_, rfl, _, rfl, _, rfl, a, b, c, rfl, ha.mono (by decide), hb.mono (by decide), hc.mono (by decide), ?_⟩
      refine ⟨_, rfl, _, rfl, ip.2, hd.mono (by decide), fun H1 sm => ?_⟩
      refine ⟨_, rfl, _, rfl, _, _, rfl, rfl, mx hr0 hr0, _, rfl, rfl, _, rfl, ite2 (fun e2 => ?_) (fun e2 => ?_)⟩
      · have e3 : rt (b * b + 4 * a * c) * rt (b * b + 4 * a * c) = b * b + 4 * a * c := V.int.inj (of_decide_eq_true e2)
        rw [if_pos e3] at k
        have rg := rt_gt ip.1 (rt_is ip.2).1 e3.symm
        refine ⟨_, rfl, _, rfl, _, _, rfl, rfl, _, rfl, _, _, rfl, rfl, .inl ⟨by decide, by decide⟩, _, _, rfl, ⟨by show 0 ≤ rt (b * b + 4 * a * c) - b; omega, by show 0 ≤ 2 * a; omega, .inr (by show 0 < 2 * a; omega)⟩, ?_, ?_, fun H2 p sm2 np hp => ?_⟩
        · exact (hr0.sub (hb.mono (by decide))).mono (by decide)
        · exact (Sm.mul (m := 2) (n := 133) (x := 2) (by unfold Sm; decide) ha).mono (by decide)
        · exact k _ p (sm.trans sm2) (sm.free np) hp
      · have e3 : ¬ rt (b * b + 4 * a * c) * rt (b * b + 4 * a * c) = b * b + 4 * a * c := fun z => e2 (decide_eq_true (congrArg V.int z))
        rw [if_neg e3] at k
        have g0 : 0 < gc (gc a b) c := gc_pos (.inr (by omega))
        have gb : gc (gc a b) c ≤ c := Int.le_of_dvd (by omega) (gc_dvd2 _ _)
        have gs : Sm 133 (gc (gc a b) c) := hc.of (by omega) gb
        refine ⟨_, rfl, _, rfl, a, b, rfl, _, rfl, _, _, rfl, ?_⟩
        refine ⟨_, rfl, _, rfl, _, _, rfl, rfl, dvw g0 gs, _, rfl, _, rfl, _, _, rfl, rfl, dvw g0 gs, _, rfl, _, rfl, _, _, rfl, rfl, dvw g0 gs, (by show 3 ≤ sizeLine; decide), fun p hp => ?_⟩
        exact k _ _ (sm.trans (same_upd hp)) (sm.free hp) upd_same
abbrev s_Exact_init : Stmt := inClass (top 30) 0
theorem sc_Exact_init : FnScope ["self", "square", "line", "whole"] ["self", "square", "line", "whole"] (defScope s_Exact_init) := ⟨rfl, rfl, rfl, by decide +kernel, rfl, by decide +kernel, by decide +kernel⟩

theorem ok_init {f : Addr} {fd : FuncData} (F : Fun K "__init__" "Exact.__init__" s_Exact_init f fd) (T : TxtX K mg w tG t1 t3 tC tK tP aO aW aCh Ce) (D_is_integer_within : Df P w K mg base 2 "is_integer_within" ["value", "least", "most"] spWithin) (D_simplest_equation : Df P w K mg base 4 "simplest_equation" ["square", "line", "whole"] spSimp) :
    FnOk P w K mg base CX0 5 f fd ["self", "square", "line", "whole"] (spInit Ce) := by
  refine F.ok sc_Exact_init (fun vs H Q E h => ?_) (fun cdv A outer s H vs Q E hr h => ?_)
  · obtain ⟨x, dx, a, b, c, rfl, _⟩ := h
    rfl
  · obtain ⟨x, dx, a, b, c, rfl, hx, hB, k⟩ := h
    refine ⟨_, (pss_cons (ps_if (pt_not (pt_val (pe_df D_is_integer_within (hr.mono (by decide)) (by rfl) (pa_cons (pv 1) (pa_cons pe_int (pa_cons (pe_glob (v := .int 10000000000000000000000000000000000000000) rfl T.mgP ⟨_, rfl⟩) pa_nil)))))) (pss_one ps_never) pss_nil)
      (pss_cons (ps_if (PW.pt (pw_or (pt_not (pt_val (pe_df D_is_integer_within (hr.mono (by decide)) (by rfl) (pa_cons (pv 2) (pa_cons (pe_un un_neg (pe_glob (v := .int 10000000000000000000000000000000000000000) rfl T.mgP ⟨_, rfl⟩)) (pa_cons (pe_glob (v := .int 10000000000000000000000000000000000000000) rfl T.mgP ⟨_, rfl⟩) pa_nil)))))) (pw_or1 (PW.pt (pw_and (pt_cmpR op_eq (pv 1) pe_int (nomark _)) (pw_and1 (pt_cmpR op_lt (pv 2) pe_int (nomark _)))))))) (pss_one ps_never) pss_nil)
      (pss_cons (ps_if (PW.pt (pw_or (pt_not (pt_val (pe_df D_is_integer_within (hr.mono (by decide)) (by rfl) (pa_cons (pv 3) (pa_cons pe_int (pa_cons (pe_glob (v := .int 10000000000000000000000000000000000000000) rfl T.mgP ⟨_, rfl⟩) pa_nil)))))) (pw_or1 (PW.pt (pw_and (pt_cmpR op_ne (pv 1) pe_int (nomark _)) (pw_and1 (pt_cmpR op_eq (pv 3) pe_int (nomark _)))))))) (pss_one ps_never) pss_nil)
      (pss_one (ps_fld (pv 0) (pe_df D_simplest_equation (hr.mono (by decide)) (by rfl) (pa_cons (pv 1) (pa_cons (pv 2) (pa_cons (pv 3) pa_nil)))) rfl))))), ?_⟩
    obtain ⟨sa, sb, sc⟩ := hB.sm
    obtain ⟨g, h1, h2, h3, h4⟩ := hB
    have a0 : 0 ≤ a ∧ 0 ≤ c := by
      rcases g with g | g <;> omega
    refine ⟨_, rfl, a, 0, _, rfl, a0.1, h1, true, rfl, iteF ?_⟩
    refine ⟨_, rfl, _, rfl, b, _, _, rfl, h2, h3, true, rfl, iteF ?_⟩
    refine both (fun rest => ⟨_, rfl, rfl, _, rfl, ite2 (fun e => ⟨_, rfl, _, _, rfl, rfl, _, rfl, ite2 (fun e2 => ?_) (fun _ => rest)⟩) (fun _ => iteF rest)⟩) ?_
    · have e3 : a = 0 := V.int.inj (of_decide_eq_true e)
      have e4 : b < 1 := of_decide_eq_true e2
      rcases g with g | g <;> omega
    refine ⟨_, rfl, c, 0, _, rfl, a0.2, h4, true, rfl, iteF ?_⟩
    refine both (fun rest => ⟨_, rfl, rfl, _, rfl, ite2 (fun e => ⟨_, rfl, rfl, _, rfl, ite2 (fun e2 => ?_) (fun _ => rest)⟩) (fun _ => iteF rest)⟩) ?_
    · have e3 : ¬ a = 0 := fun z => by
        have e5 : (!decide (V.int a = V.int 0)) = true := e
        rw [decide_eq_true (congrArg V.int z)] at e5
        cases e5
      have e4 : c = 0 := V.int.inj (of_decide_eq_true e2)
      rcases g with g | g <;> omega
    refine ⟨_, rfl, _, rfl, _, rfl, a, b, c, rfl, g, sa, sb, sc, fun H1 p sm np hp => ?_⟩
    have hx1 := sm _ _ hx
    have nxp : x ≠ p := ne_of hx1 hp (by intro z; cases z)
    refine ⟨_, rfl, x, Ce, dx, _, rfl, hx1, T.clE, T.nP, (by show 0 < 1000; decide), ?_⟩
    refine k _ ((But.of sm).trans But.upd) ⟨dx, p, upd_same, ?_⟩
    rw [upd_ne nxp.symm]
    exact hp
abbrev s_Exact_equation : Stmt := inClass (top 30) 2
theorem sc_Exact_equation : FnScope ["self"] ["self"] (defScope s_Exact_equation) := ⟨rfl, rfl, rfl, by decide +kernel, rfl, by decide +kernel, by decide +kernel⟩

theorem ok_eqn {f : Addr} {fd : FuncData} (F : Fun K "equation" "Exact.equation" s_Exact_equation f fd) (T : TxtX K mg w tG t1 t3 tC tK tP aO aW aCh Ce) : FnOk P w K mg base CX0 1 f fd ["self"] (spEqn Ce) := by
  refine F.ok sc_Exact_equation (fun vs H Q E h => ?_) (fun cdv A outer s H vs Q E hr h => ?_)
  · obtain ⟨x, dx, p, rfl, _⟩ := h
    rfl
  · obtain ⟨x, dx, p, rfl, hx, k⟩ := h
    refine ⟨_, (pss_one (ps_ret (pe_fld (pv 0) rfl))), ?_⟩
    exact ⟨_, rfl, x, Ce, dx, _, _, rfl, hx, T.clE, T.nP, rfl, k⟩
abbrev s_ladder_limit : Stmt := top 39
theorem sc_ladder_limit : FnScope ["matrix", "a", "b", "c", "d"] ["matrix"] (defScope s_ladder_limit) := ⟨rfl, rfl, rfl, by decide +kernel, rfl, by decide +kernel, by decide +kernel⟩

theorem ok_lim {f : Addr} {fd : FuncData} (F : Fun K "ladder_limit" "ladder_limit" s_ladder_limit f fd) (T : TxtX K mg w tG t1 t3 tC tK tP aO aW aCh Ce) (X_exact : ExD P w K mg base Ce) : FnOk P w K mg base CX0 7 f fd ["matrix"] (spLim aO Ce) := by
  refine F.ok sc_ladder_limit (fun vs H Q E h => ?_) (fun cdv A outer s H vs Q E hr h => ?_)
  · obtain ⟨a, r, rfl, _⟩ := h
    rfl
  · obtain ⟨a, r, rfl, ha, hok, l8, k⟩ := h
    refine ⟨_, (pss_cons (ps_asg (pv 0) (pg_tup rfl (pgs_cons (pg_name (i := 1) sc_ladder_limit.nd rfl (.inl rfl)) (pgs_cons (pg_name (i := 2) sc_ladder_limit.nd rfl (.inl rfl)) (pgs_cons (pg_name (i := 3) sc_ladder_limit.nd rfl (.inl rfl)) (pgs_cons (pg_name (i := 4) sc_ladder_limit.nd rfl (.inl rfl)) pgs_nil))))))
      (pss_cons (ps_if (pt_cmpR op_eq (pv 3) pe_int (nomark _)) (pss_one (ps_ret (pe_glob (v := .ref aO) rfl T.mgO rfl))) pss_nil)
      (pss_cons (ps_if (pt_cmpR op_eq (pv 2) pe_int (nomark _)) (pss_one (ps_ret (pe_exact X_exact (hr.mono (by decide)) rfl T.mgE (pa_cons pe_int (pa_cons pe_int (pa_cons pe_int pa_nil)))))) pss_nil)
      (pss_one (ps_ret (pe_exact X_exact (hr.mono (by decide)) rfl T.mgE (pa_cons (pv 3) (pa_cons (pe_op op_sub (pv 4) (pv 1)) (pa_cons (pv 2) pa_nil))))))))), ?_⟩
    obtain ⟨a0, a1, b0, b1, c0, c1, d0, d1⟩ := matR_le hok l8
    refine ⟨_, rfl, a, _, rfl, SqT.of ha, rfl, _, _, rfl, _, _, rfl, _, _, rfl, _, _, rfl, rfl, ?_⟩
    refine ⟨_, rfl, rfl, _, rfl, ite2 (fun e => ?_) (fun e => ?_)⟩
    · exact k _ _ (Same.refl _) (.inl ⟨V.int.inj (of_decide_eq_true e), rfl⟩)
    have cn : (matR r).c ≠ 0 := fun z => e (decide_eq_true (congrArg V.int z))
    refine ⟨_, rfl, rfl, _, rfl, ite2 (fun e2 => ?_) (fun e2 => ?_)⟩
    · have bz : (matR r).b = 0 := V.int.inj (of_decide_eq_true e2)
      exact make_lim ⟨.inl ⟨rfl, by decide, by decide⟩, by decide, by decide, by decide, by decide⟩ cn (by unfold eqL; rw [if_pos bz, parts010]) k
    · have bn : (matR r).b ≠ 0 := fun z => e2 (decide_eq_true (congrArg V.int z))
      refine ⟨_, rfl, _, rfl, _, rfl, _, _, rfl, rfl, _, rfl, ?_⟩
      exact make_lim ⟨.inr ⟨by omega, by omega⟩, by omega, by omega, by omega, by omega⟩ cn (by unfold eqL; rw [if_neg bn]) k
abbrev s_Exact_eq : Stmt := inClass (top 30) 6
theorem sc_Exact_eq : FnScope ["self", "other"] ["self", "other"] (defScope s_Exact_eq) := ⟨rfl, rfl, rfl, by decide +kernel, rfl, by decide +kernel, by decide +kernel⟩

theorem ok_eqt {f : Addr} {fd : FuncData} (F : Fun K "__eq__" "Exact.__eq__" s_Exact_eq f fd) (T : TxtX K mg w tG t1 t3 tC tK tP aO aW aCh Ce) (kt : PySem.W.kitOne K (.type "tuple") (.ref Ce) = some false) : FnOk P w K mg base CX0 1 f fd ["self", "other"] (spEqT Ce) := by
  refine F.ok sc_Exact_eq (fun vs H Q E h => ?_) (fun cdv A outer s H vs Q E hr h => ?_)
  · obtain ⟨x, p, dx, fs, e, rfl, _⟩ := h
    rfl
  · obtain ⟨x, p, dx, fs, e, rfl, hx, hp, k⟩ := h
    refine ⟨_, (pss_one (ps_ret (pe_and (pe_callB call_isi (by rfl) T.isinstance (by decide +kernel) (pa_cons (pv 1) (pa_cons (pe_glob (v := .ref Ce) rfl T.mgE rfl) pa_nil))) (pe_one (pe_cmpR op_eq (pe_fld (pv 0) rfl) (pe_fld (pv 1) rfl) (nomark _)))))), ?_⟩
    exact ⟨_, rfl, _, _, _, _, false, rfl, .own Ce, .base (.tup hp), kt, false, rfl, iteF k⟩
end
end RL

set_option maxHeartbeats 4000000
namespace RL
open PySem L2 PySem.Spec PyProof.Rows
theorem op_or2 {X : Cx} {f : Value → Value → Sem Value} {r1 r2 : R2} (h1 : OpR X f r1) (h2 : OpR X f r2) : OpR X f (fun x y H Q => r1 x y H Q ∨ r2 x y H Q) := by
  intro pins s σ H x y v u Q I rx ry h
  rcases h with h | h
  · exact h1 pins s σ H x y v u Q I rx ry h
  · exact h2 pins s σ H x y v u Q I rx ry h
structure OwQ (P : Program) (w : World) (K : PySem.W.Frag) (mg : Str → Option Value) (base : Heap) (Ce p g : Addr) (fd : FuncData) : Prop where
  pr : PropOf K Ce "equation" p g
  ok : FnOk P w K mg base CX0 1 g fd ["self"] (spEqn Ce)
  b : Binds K fd ["self"] []
/-! ### the limit of a ladder: the checker -/
theorem lay_ints : ∀ {ds : List PyData}, (∀ d ∈ ds, isIntD d = true) → PyData.canLayAll0 ds = true ∧ PyData.depthAll ds ≤ 1
  | [], _ => ⟨rfl, by simp [PyData.depthAll]⟩
  | d :: ds, h => by
    obtain ⟨a, b⟩ := lay_ints (ds := ds) fun x hx => h x (List.mem_cons_of_mem _ hx)
    obtain ⟨i, rfl⟩ := int_of (h d List.mem_cons_self)
    refine ⟨?_, ?_⟩
    · simp [PyData.canLayAll0, PyData.canLay0, a]
    · simp [PyData.depthAll, PyData.depth]
      omega
theorem sh_ints {ds : List PyData} (h : ∀ d ∈ ds, isIntD d = true) : SeqAt.shaped (.tuple ds) = true := by
  obtain ⟨a, b⟩ := lay_ints h
  unfold SeqAt.shaped
  simp [PyData.canLay0, PyData.depth, a]
  omega
theorem dp_ints {K : PySem.W.Frag} {H : Hp} {v : V} {ds : List PyData} (h : Dr H v (.tuple ds)) (hi : ∀ d ∈ ds, isIntD d = true) : Dp K H v (.tuple ds) := h.dp (hda_of fun x hx => by
  obtain ⟨i, rfl⟩ := int_of (hi x hx)
  rfl)
def limD (r : List Pc) : PyData := if (matR r).c = 0 then .tuple [.int 1, .int 0] else .tuple [.int (eqL r).1, .int (eqL r).2.1, .int (eqL r).2.2]
def intsG : PyData → Bool
  | .tuple ds => ds.all isIntD
  | _ => false
def limB : List PyData → PyData → Bool
  | [r, l, x], e => emptyG e && (rowG r && (resG l && (intsG x && PyData.eqv x (limD (rowOf r)))))
  | _, _ => false
theorem limB_no {r : List PyData} {e : PyData} (h : r.length ≠ 3) : limB r e = false := by
  match r, h with
  | [], _ => rfl
  | [_], _ => rfl
  | [_, _], _ => rfl
  | [_, _, _], h => exact absurd rfl h
  | _ :: _ :: _ :: _ :: _, _ => rfl
def spEqO (Ce aO : Addr) : Sp := fun vs H Q _ => ∃ (x dx : Addr) (fs : List (Str × V)), vs = [.ref x, .ref aO] ∧ H x = some (.ins Ce dx fs) ∧ Q (.bl false) H
structure OwX (P : Program) (w : World) (K : PySem.W.Frag) (mg : Str → Option Value) (base : Heap) (C aO g : Addr) (fd : FuncData) : Prop where
  e_at : PySem.W.findIn K (.ref C) "__eq__" = some (some (.ref g))
  e_fn : PySem.W.isFn K (.ref g) = true
  ok : FnOk P w K mg base CX0 1 g fd ["self", "other"] (spEqO C aO)
  b : Binds K fd ["self", "other"] []
  nf : PySem.W.notFirst K C (.type "tuple") = true
section
variable {P : Program} {w : World} {K : PySem.W.Frag} {mg : Str → Option Value} {base : Heap} {tG t1 t3 tC tK tP : Tok} {aO aW aCh Ce pq gq gx : Addr} {fq fx : FuncData}
theorem ok_eqo {f : Addr} {fd : FuncData} (F : Fun K "__eq__" "Exact.__eq__" s_Exact_eq f fd) (T : TxtX K mg w tG t1 t3 tC tK tP aO aW aCh Ce) (kt : PySem.W.kitOne K (.type "tuple") (.ref Ce) = some false) : FnOk P w K mg base CX0 1 f fd ["self", "other"] (spEqO Ce aO) := by
  refine F.ok sc_Exact_eq (fun vs H Q E h => ?_) (fun cdv A outer s H vs Q E hr h => ?_)
  · obtain ⟨x, dx, fs, rfl, _⟩ := h
    rfl
  · obtain ⟨x, dx, fs, rfl, hx, k⟩ := h
    refine ⟨_, (pss_one (ps_ret (pe_and (pe_callB call_isi (by rfl) T.isinstance (by decide +kernel) (pa_cons (pv 1) (pa_cons (pe_glob (v := .ref Ce) rfl T.mgE rfl) pa_nil))) (pe_one (pe_cmpR op_eq (pe_fld (pv 0) rfl) (pe_fld (pv 1) rfl) (nomark _)))))), ?_⟩
    exact ⟨_, rfl, _, _, _, _, false, rfl, .own Ce, ty_dp (d := .tuple [.int 1, .int 0]) (.tup (.inr T.opn) (.cons (.int _) (.cons (.int _) .nil))), kt, false, rfl, iteF k⟩
abbrev s_check_limit : Stmt := top 62
theorem sc_check_limit : FnScope ["places", "certificate", "row", "load", "told", "part", "limit"] ["places", "certificate"] (defScope s_check_limit) := ⟨rfl, rfl, rfl, by decide +kernel, rfl, by decide +kernel, by decide +kernel⟩

theorem ok_ckli {f : Addr} {fd : FuncData} (F : Fun K "check_limit" "check_limit" s_check_limit f fd) (T : TxtX K mg w tG t1 t3 tC tK tP aO aW aCh Ce) (OX : OwX P w K mg base Ce aO gx fx) (OQ : OwQ P w K mg base Ce pq gq fq) (D_is_integer : Df P w K mg base 1 "is_integer" ["value"] (spIntG K)) (D_is_empty : Df P w K mg base 1 "is_empty" ["value"] (spEmptyG K)) (D_is_row : Df P w K mg base 4 "is_row" ["value"] (spRowG K)) (D_is_resistance : Df P w K mg base 3 "is_resistance" ["value"] (spResG K)) (D_matrix_of : Df P w K mg base 2 "matrix_of" ["row"] spMatOf) (D_ladder_limit : Df P w K mg base 7 "ladder_limit" ["matrix"] (spLim aO Ce)) : FnOk P w K mg base CX0 8 f fd ["places", "certificate"] (spCkB2 limB) := by
  refine F.ok sc_check_limit (fun vs H Q E h => ?_) (fun cdv A outer s H vs Q E hr h => ?_)
  · obtain ⟨t, ys, ds, u, e, rfl, _⟩ := h
    rfl
  · obtain ⟨t, ys, ds, u, e, rfl, ht, hy, hpl, hu, hpe, k⟩ := h
    refine ⟨_, (pss_cons (ps_if (PW.pt (pw_or (pt_cmpR op_ne (pe_callB call_len_seq (by rfl) T.len (by decide +kernel) (pa_cons (pv 0) pa_nil)) pe_int (nomark _)) (pw_or1 (pt_not (pt_val (pe_df D_is_empty (hr.mono (by decide)) (by rfl) (pa_cons (pv 1) pa_nil))))))) (pss_one (ps_ret pe_bl)) pss_nil)
      (pss_cons (ps_asg (pv 0) (pg_tup rfl (pgs_cons (pg_name (i := 2) sc_check_limit.nd rfl (.inl rfl)) (pgs_cons (pg_name (i := 3) sc_check_limit.nd rfl (.inl rfl)) (pgs_cons (pg_name (i := 4) sc_check_limit.nd rfl (.inl rfl)) pgs_nil)))))
      (pss_cons (ps_if (PW.pt (pw_or (pt_not (pt_val (pe_df D_is_row (hr.mono (by decide)) (by rfl) (pa_cons (pv 2) pa_nil)))) (pw_or (pt_not (pt_val (pe_df D_is_resistance (hr.mono (by decide)) (by rfl) (pa_cons (pv 3) pa_nil)))) (pw_or1 (pt_not (pt_val (pe_callB call_isi (by rfl) T.isinstance (by decide +kernel) (pa_cons (pv 4) (pa_cons (pe_bltn (v := .ty "tuple") (by rfl) T.tuple_ (by decide +kernel) rfl) pa_nil))))))))) (pss_one (ps_ret pe_bl)) pss_nil)
      (pss_cons (ps_if (pt_not (pt_val (pe_callB (cr_all rfl) (by rfl) T.all (by decide +kernel) (pa_cons (pe_lc (own := [("part", 5)]) (g := gName 5) (tt := tYes) rfl sc_check_limit.nd (pi_tup (pv 4)) (blkOk_by (N := ["places", "certificate", "row", "load", "told", "part", "limit"]) (sc := defScope s_check_limit) (by decide +kernel)) (fun _ _ _ _ _ => pg_name (i := 5) sc_check_limit.nd rfl (Or.inl rfl)) (fun _ _ _ _ _ => pts_nil) (fun _ _ _ _ _ => (pe_df D_is_integer (hr.mono (by decide)) (by rfl) (pa_cons (pv 5) pa_nil)))) pa_nil)))) (pss_one (ps_ret pe_bl)) pss_nil)
      (pss_cons (ps_set (i := 6) sc_check_limit.nd rfl (.inl rfl) (pe_df D_ladder_limit (hr.mono (by decide)) (by rfl) (pa_cons (pe_df D_matrix_of (hr.mono (by decide)) (by rfl) (pa_cons (pv 2) pa_nil)) pa_nil)))
      (pss_one (ps_ret (pe_cmpR (op_eqD hr.units) (pv 4) (pe_ifExp (pt_cmpR (op_or2 (op_eqD hr.units) (op_eqOwn OX.e_at OX.e_fn OX.ok OX.b (hr.mono (by decide)))) (pv 6) (pe_glob (v := .ref aO) rfl T.mgO rfl) (nomark _)) (pe_glob (v := .ref aO) rfl T.mgO rfl) (pe_prop (pv 6) T.clE OQ.pr OQ.ok (hr.mono (by decide)) OQ.b .nil pass0 rfl)) (nomark _))))))))), ?_⟩
    refine ⟨_, rfl, t, _, rfl, .inr (SqT.of ht), rfl, _, rfl, ite2 (fun e1 => ?_) (fun e1 => ?_)⟩
    · have nl : ds.length ≠ 3 := fun z => by
        rw [hy.1, z] at e1
        exact absurd e1 (by decide)
      rw [limB_no nl] at k
      exact k _ (Same.refl _)
    have l3 : ds.length = 3 := by
      have e2 : decide (V.int (ys.length : Int) = V.int 3) = true := by
        cases hh : decide (V.int (ys.length : Int) = V.int 3) with
        | true => rfl
        | false =>
          rw [hh] at e1
          exact absurd rfl e1
      have := V.int.inj (of_decide_eq_true e2)
      have := hy.1
      omega
    obtain ⟨r, l, x, rfl⟩ : ∃ r m l, ds = [r, m, l] := by
      match ds, l3 with
      | [r, m, l], _ => exact ⟨r, m, l, rfl⟩
    obtain ⟨vr, vl, vx, rfl⟩ : ∃ a b c, ys = [a, b, c] := by
      match ys, hy.1 with
      | [a, b, c], _ => exact ⟨a, b, c, rfl⟩
    obtain ⟨hr', hy1⟩ := hy.inv
    obtain ⟨hl', hy2⟩ := hy1.inv
    obtain ⟨hx', _⟩ := hy2.inv
    have nr := hpl r (by simp)
    have nl := hpl l (by simp)
    have nx := hpl x (by simp)
    have q : limB [r, l, x] e = (emptyG e && (rowG r && (resG l && (intsG x && PyData.eqv x (limD (rowOf r)))))) := rfl
    rw [q] at k
    have no : ∀ {H'}, Same H H' → (emptyG e && (rowG r && (resG l && (intsG x && PyData.eqv x (limD (rowOf r)))))) = false → Q (.bl false) H' := fun {H'} s z => by
      rw [z] at k
      exact k _ s
    refine ⟨_, rfl, u, e, rfl, hu.dq hpe.1, _, rfl, ?_⟩
    cases a0 : emptyG e with
    | false => exact iteT (no (Same.refl _) (by rw [a0]; rfl))
    | true =>
    refine iteF ⟨_, rfl, t, _, rfl, SqT.of ht, rfl, _, _, rfl, _, _, rfl, _, _, rfl, rfl, ?_⟩
    refine ⟨_, rfl, vr, r, rfl, hr'.dq nr.1, fun H1 s1 => ⟨_, rfl, ?_⟩⟩
    cases a1 : rowG r with
    | false => exact iteT (no s1 (by rw [a1]; simp))
    | true =>
    refine iteF ⟨_, rfl, vl, l, rfl, (hl'.mono s1).dq nl.1, _, rfl, ?_⟩
    cases a2 : resG l with
    | false => exact iteT (no s1 (by rw [a2]; simp))
    | true =>
    refine iteF ⟨_, rfl, _, _, _, _, isTupD x, rfl, .ty _, ty_dr (hx'.mono s1), kit_tup x, _, rfl, ?_⟩
    cases h4 : isTupD x with
    | false =>
      have e : intsG x = false := by cases x <;> first | rfl | (cases h4; done)
      exact iteT (no s1 (by rw [e]; simp))
    | true =>
    obtain ⟨xs, rfl⟩ : ∃ ds, x = .tuple ds := by cases x <;> first | exact ⟨_, rfl⟩ | (cases h4; done)
    obtain ⟨tx, us, rfl, htx, hus⟩ := hx'.tuple
    have lus := hus.1
    have l100 : xs.length ≤ 100 := of_decide_eq_true nx.2.2
    refine iteF ⟨_, rfl, tx, rfl, ⟨_, SqT.of (s1 _ _ htx)⟩, fun D hD => ?_⟩
    refine lc_tup (K := K) (a := tx) (xs := us) (fun i H' => Same H1 H' ∧ H' D = some (.lst (((xs.take i).map isIntD).map V.bl))) ⟨same_upd hD, upd_same⟩ (fun i H' _ h => SqT.of ((s1.trans h.1) _ _ htx)) ?_ ?_
    · rintro i y H' hyi ⟨sD, hDi⟩
      obtain ⟨d, hd', hdp⟩ := hus.atv hyi
      have il : i < xs.length := (List.getElem?_eq_some_iff.mp hd').1
      refine ⟨rfl, ?_⟩
      unfold tYes
      refine iteT ?_
      refine ⟨_, rfl, _, d, rfl, (hdp.mono (s1.trans sD)).dq (.inl (Nd.at_ nx.1 hd')), _, hDi, ?_, ?_, ?_⟩
      · rw [List.length_map, List.length_map, List.length_take]
        exact small1000 (by omega)
      · intro q o e
        rw [upd_ne (ne_of_none e hD)]
        exact sD _ _ e
      · rw [upd_same, take_snoc hd', List.map_append, List.map_append]
        rfl
    rintro H2 ⟨sD, hDn⟩
    refine ⟨D, _, rfl, SqL.of hDn, _, rfl, ?_⟩
    rw [lus, List.take_length, List.all_map]
    have s12 := s1.trans sD
    cases a3 : intsG (.tuple xs) with
    | false =>
      have : xs.all (id ∘ isIntD) = false := a3
      rw [this]
      exact iteT (no s12 (by rw [a3]; simp))
    | true =>
    have e3 : xs.all (id ∘ isIntD) = true := a3
    rw [e3]
    rw [a0, a1, a2, a3] at k
    simp only [Bool.true_and] at k
    have hints : ∀ d ∈ xs, isIntD d = true := List.all_eq_true.mp e3
    have hrow := (row_at hr' a1).same s12
    obtain ⟨_, _, _, _, _, hok, _, l8⟩ := id hrow
    refine iteF ⟨_, rfl, vr, rowOf r, rfl, hrow, fun H3 m s3 hm => ?_⟩
    refine ⟨m, rowOf r, rfl, hm, hok, l8, fun H4 lv s4 hlv => ?_⟩
    have s14 := (s12.trans s3).trans s4
    have dpo : ∀ {HH : Hp}, Dp K HH (.ref aO) (.tuple [.int 1, .int 0]) := fun {HH} => .tup (.inr T.opn) (.cons (.int _) (.cons (.int _) .nil))
    have dpx := dp_ints (K := K) (hx'.mono s14) hints
    refine ⟨_, rfl, _, rfl, ?_⟩
    rcases hlv with ⟨c0, rfl⟩ | ⟨cn, y, rfl, hy⟩
    · have ld : limD (rowOf r) = .tuple [.int 1, .int 0] := if_pos c0
      rw [ld] at k
      refine .inl ⟨_, _, dpo, dpo, rfl, rfl, _, rfl, ite2 (fun _ => ?_) (fun e => absurd (SeqAt.eqv_refl _ (by decide +kernel)) e)⟩
      exact ⟨_, _, dpx, dpo, sh_ints hints, rfl, k _ s14⟩
    · have ld : limD (rowOf r) = .tuple [.int (eqL (rowOf r)).1, .int (eqL (rowOf r)).2.1, .int (eqL (rowOf r)).2.2] := if_neg cn
      rw [ld] at k
      obtain ⟨dy, qy, hiy, hqy⟩ := id hy
      refine .inr ⟨y, dy, _, _, rfl, hiy, ty_dp (d := .tuple [.int 1, .int 0]) dpo, OX.nf, y, dy, _, rfl, hiy, _, rfl, ite2 (fun e => absurd e (by decide)) (fun _ => ?_)⟩
      refine ⟨_, rfl, y, dy, _, rfl, hiy, y, dy, qy, rfl, hiy, ?_⟩
      exact ⟨_, _, dpx, .tup (SqT.of hqy) (.cons (.int _) (.cons (.int _) (.cons (.int _) .nil))), sh_ints hints, rfl, k _ s14⟩
end
end RL

set_option maxHeartbeats 4000000
namespace RL
open PySem L2 PySem.Spec PyProof.Rows
/-! ### the limit of a ladder: the law -/
theorem gc_if (a b : Int) : gc a (if b < 0 then -b else b) = gc a b := by
  unfold gc
  split
  · rw [Int.gcd_neg]
  · rfl
theorem div_div' {a g : Int} (ha : 0 < a) (d : g ∣ a) (hg : 0 < g) : a / (a / g) = g := by
  have e := ex_mul d hg
  have p : 1 ≤ a / g := by
    rcases Int.lt_or_le 0 (a / g) with z | z
    · omega
    · have := Int.mul_nonpos_of_nonneg_of_nonpos (Int.le_of_lt hg) z
      omega
  generalize a / g = q at *
  subst e
  exact Int.mul_ediv_cancel _ (by omega)
theorem div_pos' {a g : Int} (ha : 0 < a) (d : g ∣ a) (hg : 0 < g) : 0 < a / g := by
  have e := ex_mul d hg
  rcases Int.lt_or_le 0 (a / g) with z | z
  · omega
  · have := Int.mul_nonpos_of_nonneg_of_nonpos (Int.le_of_lt hg) z
    omega
def spLLim : Sp := fun vs H Q _ => ∃ (v : V) (r : List Pc), vs = [v] ∧ RowT H v r ∧ ∀ H' v', Same H H' → Dn H H' v' (limD r) → Q v' H'
section
variable {P : Program} {w : World} {K : PySem.W.Frag} {mg : Str → Option Value} {base : Heap} {tG t1 t3 tC tK tP : Tok} {aO aW aCh Ce : Addr}
abbrev s_law_limit : Stmt := top 91
theorem sc_law_limit : FnScope ["_law_row", "_law_a", "_law_c", "_law_b", "_law_d", "_law_inner", "_law_root", "_law_top", "_law_bottom", "_law_by"] ["_law_row"] (defScope s_law_limit) := ⟨rfl, rfl, rfl, by decide +kernel, rfl, by decide +kernel, by decide +kernel⟩

theorem ok_llim {f : Addr} {fd : FuncData} (F : Fun K "_law_limit" "_law_limit" s_law_limit f fd) (T : TxtA K mg w tG t1 t3 tC tK aO aW aCh) (D_law_led : Df P w K mg base 1 "_law_led" ["_law_row", "_law_pair"] spLed) (D_law_isqrt : Df P w K mg base 1 "_law_isqrt" ["_law_number"] spIsq) (D_law_lowest : Df P w K mg base 1 "_law_lowest" ["_law_top", "_law_bottom"] spPair) : FnOk P w K mg base CX0 2 f fd ["_law_row"] spLLim := by
  refine F.ok sc_law_limit (fun vs H Q E h => ?_) (fun cdv A outer s H vs Q E hr h => ?_)
  · obtain ⟨v, r, rfl, _⟩ := h
    rfl
  · obtain ⟨v, r, rfl, hrow, k⟩ := h
    refine ⟨_, (pss_cons (ps_asg (pe_df D_law_led (hr.mono (by decide)) (by rfl) (pa_cons (pv 0) (pa_cons (pd_tup (pds_cons pd_int (pds_cons pd_int pds_nil))) pa_nil))) (pg_tup rfl (pgs_cons (pg_name (i := 1) sc_law_limit.nd rfl (.inl rfl)) (pgs_cons (pg_name (i := 2) sc_law_limit.nd rfl (.inl rfl)) pgs_nil))))
      (pss_cons (ps_asg (pe_df D_law_led (hr.mono (by decide)) (by rfl) (pa_cons (pv 0) (pa_cons (pd_tup (pds_cons pd_int (pds_cons pd_int pds_nil))) pa_nil))) (pg_tup rfl (pgs_cons (pg_name (i := 3) sc_law_limit.nd rfl (.inl rfl)) (pgs_cons (pg_name (i := 4) sc_law_limit.nd rfl (.inl rfl)) pgs_nil))))
      (pss_cons (ps_if (pt_cmpR op_eq (pv 2) pe_int (nomark _)) (pss_one (ps_ret (pd_tup (pds_cons pd_int (pds_cons pd_int pds_nil))))) pss_nil)
      (pss_cons (ps_if (pt_cmpR op_eq (pv 3) pe_int (nomark _)) (pss_one (ps_ret (pd_tup (pds_cons pd_int (pds_cons pd_int (pds_cons pd_int pds_nil)))))) pss_nil)
      (pss_cons (ps_set (i := 5) sc_law_limit.nd rfl (.inl rfl) (pe_op op_add (pe_op op_mulX (pe_op op_sub (pv 4) (pv 1)) (pe_op op_sub (pv 4) (pv 1))) (pe_op op_mulX (pe_op op_mul pe_int (pv 3)) (pv 2))))
      (pss_cons (ps_set (i := 6) sc_law_limit.nd rfl (.inl rfl) (pe_df D_law_isqrt (hr.mono (by decide)) (by rfl) (pa_cons (pv 5) pa_nil)))
      (pss_cons (ps_if (pt_cmpR op_eq (pe_op op_mulX (pv 6) (pv 6)) (pv 5) (nomark _)) (pss_cons (ps_asg (pe_df D_law_lowest (hr.mono (by decide)) (by rfl) (pa_cons (pe_op op_sub (pe_op op_add (pv 6) (pv 1)) (pv 4)) (pa_cons (pe_op op_mul pe_int (pv 2)) pa_nil))) (pg_tup rfl (pgs_cons (pg_name (i := 7) sc_law_limit.nd rfl (.inl rfl)) (pgs_cons (pg_name (i := 8) sc_law_limit.nd rfl (.inl rfl)) pgs_nil))))
      (pss_one (ps_ret (pe_tup (pa_cons pe_int (pa_cons (pv 8) (pa_cons (pv 7) pa_nil))))))) pss_nil)
      (pss_cons (ps_set (i := 9) sc_law_limit.nd rfl (.inl rfl) (pe_op op_fdivW (pv 2) (pe_ix ix_tup (pe_df D_law_lowest (hr.mono (by decide)) (by rfl) (pa_cons (pv 2) (pa_cons (pe_callB call_abs (by rfl) T.abs (by decide +kernel) (pa_cons (pe_op op_sub (pv 4) (pv 1)) pa_nil)) pa_nil))) pe_int (fun _ _ => rfl))))
      (pss_cons (ps_set (i := 9) sc_law_limit.nd rfl (.inl rfl) (pe_op op_fdivW (pv 9) (pe_ix ix_tup (pe_df D_law_lowest (hr.mono (by decide)) (by rfl) (pa_cons (pv 9) (pa_cons (pv 3) pa_nil))) pe_int (fun _ _ => rfl))))
      (pss_one (ps_ret (pe_tup (pa_cons (pe_op op_fdivW (pv 2) (pv 9)) (pa_cons (pe_op op_fdivW (pe_op op_sub (pv 4) (pv 1)) (pv 9)) (pa_cons (pe_op op_fdivW (pv 3) (pv 9)) pa_nil))))))))))))))), ?_⟩
    obtain ⟨_, _, _, _, _, hok, _, l8⟩ := id hrow
    obtain ⟨za, zb, zc, zd⟩ := matR_sm30 hok l8
    obtain ⟨a0, _, b0, _, c0, _, d0, _⟩ := matR_le hok l8
    have o1 : Sm 3900 1 := by unfold Sm; decide +kernel
    have o0 : Sm 3900 0 := by unfold Sm; decide +kernel
    refine ⟨_, rfl, ?_⟩
    intro H1 v1 s1 h1
    obtain ⟨p1, rfl, hp1⟩ := lit_pair h1
    refine ⟨v, p1, r, (1, 0), rfl, hrow.same s1, hp1, o1, o0, fun H2 q2 s2 nq2 hq2 => ?_⟩
    rw [act_10] at hq2
    have sA := s1.trans s2
    refine ⟨q2, _, rfl, SqT.of hq2, rfl, _, _, rfl, _, _, rfl, rfl, ?_⟩
    refine ⟨_, rfl, ?_⟩
    intro H3 v3 s3 h3
    obtain ⟨p3, rfl, hp3⟩ := lit_pair h3
    refine ⟨v, p3, r, (0, 1), rfl, hrow.same (sA.trans s3), hp3, o0, o1, fun H4 q4 s4 nq4 hq4 => ?_⟩
    rw [act_01] at hq4
    have sB := (sA.trans s3).trans s4
    refine ⟨q4, _, rfl, SqT.of hq4, rfl, _, _, rfl, _, _, rfl, rfl, ?_⟩
    have hL : limD r = if (matR r).c = 0 then .tuple [.int 1, .int 0] else if (matR r).b = 0 then .tuple [.int 0, .int 1, .int 0] else .tuple [.int (parts (matR r).c ((matR r).d - (matR r).a) (matR r).b).1, .int (parts (matR r).c ((matR r).d - (matR r).a) (matR r).b).2.1, .int (parts (matR r).c ((matR r).d - (matR r).a) (matR r).b).2.2] := by
      unfold limD eqL
      split
      · rfl
      · split <;> rfl
    rw [hL] at k
    have fin : ∀ {H' : Hp} {v' : V} {d : PyData}, Same H4 H' → Dn H4 H' v' d → Dn H H' v' d := fun {H' v' d} s h => Dr.mono h (fresh_dn sB)
    have tup3 : ∀ {H' : Hp} {p : Addr} {x y z : Int}, Same H4 H' → H' p = none → Dn H (upd H' p (.tup [.int x, .int y, .int z])) (.ref p) (.tuple [.int x, .int y, .int z]) := fun {H' p x y z} s np => by
      have nH : H p = none := (sB.trans s).free np
      exact Dr.ts (fresh_of nH upd_same) (Drs.cons (.int _) (Drs.cons (.int _) (Drs.cons (.int _) Drs.nil)))
    generalize (matR r).a = ra at *
    generalize (matR r).b = rb at *
    generalize (matR r).c = rc at *
    generalize (matR r).d = rd at *
    refine ⟨_, rfl, rfl, _, rfl, ite2 (fun g1 => ?_) (fun g1 => ?_)⟩
    · have g1 : rc = 0 := V.int.inj (of_decide_eq_true g1)
      rw [if_pos g1] at k
      exact fun H5 v5 s5 h5 => k _ _ (sB.trans s5) (fin s5 h5)
    have c1 : rc ≠ 0 := fun z => g1 (decide_eq_true (by rw [z]))
    rw [if_neg c1] at k
    refine ⟨_, rfl, rfl, _, rfl, ite2 (fun g2 => ?_) (fun g2 => ?_)⟩
    · have g2 : rb = 0 := V.int.inj (of_decide_eq_true g2)
      rw [if_pos g2] at k
      exact fun H5 v5 s5 h5 => k _ _ (sB.trans s5) (fin s5 h5)
    have b1 : rb ≠ 0 := fun z => g2 (decide_eq_true (by rw [z]))
    rw [if_neg b1] at k
    have cp : 0 < rc := by omega
    have bp : 0 < rb := by omega
    have zda : Sm 31 (rd - ra) := zd.sub za
    have four : Sm 3 4 := by unfold Sm; decide
    have two : Sm 2 2 := by unfold Sm; decide
    have n4 : 0 ≤ 4 * rb * rc := Int.mul_nonneg (by omega) (by omega)
    have nsq : 0 ≤ (rd - ra) * (rd - ra) := by
      rcases Int.le_total 0 (rd - ra) with z | z
      · exact Int.mul_nonneg z z
      · exact Int.mul_nonneg_of_nonpos_of_nonpos z z
    refine ⟨_, rfl, _, rfl, _, _, rfl, rfl, _, rfl, _, rfl, _, _, rfl, rfl, _, _, rfl, rfl, mx zda zda, _, rfl, _, _, rfl, rfl, .inl ⟨by decide, by decide⟩, _, rfl, _, _, rfl, rfl, mx (four.mul zb) zc, _, _, rfl, rfl, ?_⟩
    have zin : Sm 68 ((rd - ra) * (rd - ra) + 4 * rb * rc) := (((zda.mul zda).mono (by decide : (31 : Nat) + 31 ≤ 67)).add ((((four.mul zb).mul zc)).mono (by decide : 3 + 30 + 30 ≤ 67)))
    refine ⟨_, rfl, _, rfl, Int.add_nonneg nsq n4, zin.mono (by decide), fun H5 g s5 g0 gl gu => ?_⟩
    have eg : g = rt ((rd - ra) * (rd - ra) + 4 * rb * rc) := rt_of ⟨g0, gl, gu⟩
    have ein : (rd - ra) * (rd - ra) + 4 * rb * rc = (rd - ra) * (rd - ra) + 4 * rc * rb := by grind
    have sC := sB.trans s5
    have zg : Sm 68 g := zin.of (Int.le_trans (Int.neg_nonpos_of_nonneg (Int.add_nonneg nsq n4)) g0) (dbl (Int.add_nonneg nsq n4) gl)
    have hp : parts rc (rd - ra) rb = if g * g = (rd - ra) * (rd - ra) + 4 * rb * rc then (0, 2 * rc / gc (g - (rd - ra)) (2 * rc), (g - (rd - ra)) / gc (g - (rd - ra)) (2 * rc)) else (rc / gc (gc rc (rd - ra)) rb, (rd - ra) / gc (gc rc (rd - ra)) rb, rb / gc (gc rc (rd - ra)) rb) := by
      unfold parts
      rw [if_neg c1, ← ein, ← eg]
    rw [hp] at k
    refine ⟨_, rfl, _, rfl, _, _, rfl, rfl, mx zg zg, _, rfl, rfl, _, rfl, ite2 (fun g3 => ?_) (fun g3 => ?_)⟩
    · have g3 : g * g = (rd - ra) * (rd - ra) + 4 * rb * rc := V.int.inj (of_decide_eq_true g3)
      rw [if_pos g3] at k
      have e1 : g + ra - rd = g - (rd - ra) := by omega
      have gb : rd - ra < g := by
        rcases Int.lt_or_le (rd - ra) g with z | z
        · exact z
        · have h1 : g * g ≤ (rd - ra) * (rd - ra) := Int.mul_le_mul z z g0 (by omega)
          have h2 : 0 < 4 * rb * rc := Int.mul_pos (by omega) cp
          omega
      refine ⟨_, rfl, _, rfl, _, _, rfl, rfl, _, rfl, _, _, rfl, rfl, _, rfl, _, _, rfl, rfl, .inl ⟨by decide, by decide⟩, ?_⟩
      refine ⟨g + ra - rd, 2 * rc, rfl, ⟨by show 0 ≤ g + ra - rd; omega, by show 0 ≤ 2 * rc; omega, .inr (by show 0 < 2 * rc; omega)⟩, (by rw [e1]; exact ((zg.sub (zda.mono (by decide))).mono (by decide))), (two.mul zc).mono (by decide), fun H6 q s6 nq hq => ?_⟩
      rw [e1] at hq
      refine ⟨q, _, rfl, SqT.of hq, rfl, _, _, rfl, _, _, rfl, rfl, ?_⟩
      refine ⟨_, rfl, _, rfl, (by show 3 ≤ sizeLine; decide), fun p np => ?_⟩
      have s46 := s5.trans s6
      exact k _ _ ((sB.trans s46).trans (same_upd np)) (tup3 s46 np)
    · have g3 : ¬ g * g = (rd - ra) * (rd - ra) + 4 * rb * rc := fun z => g3 (decide_eq_true (congrArg V.int z))
      rw [if_neg g3] at k
      have gd : 0 < gc rc (rd - ra) := gc_pos (.inl c1)
      have zi : Sm 31 (if rd - ra < 0 then -(rd - ra) else rd - ra) := by
        split
        · exact zda.neg
        · exact zda
      have i0 : 0 ≤ (if rd - ra < 0 then -(rd - ra) else rd - ra) := by split <;> omega
      have q1 : rc / (low (rc, if rd - ra < 0 then -(rd - ra) else rd - ra)).1 = gc rc (rd - ra) := by
        show rc / (rc / gc rc (if rd - ra < 0 then -(rd - ra) else rd - ra)) = _
        rw [gc_if]
        exact div_div' cp (gc_dvd1 _ _) gd
      have l1 : 0 < (low (rc, if rd - ra < 0 then -(rd - ra) else rd - ra)).1 := by
        show 0 < rc / gc rc (if rd - ra < 0 then -(rd - ra) else rd - ra)
        rw [gc_if]
        exact div_pos' cp (gc_dvd1 _ _) gd
      have zl1 := low_sm (e := (rc, if rd - ra < 0 then -(rd - ra) else rd - ra)) (n := 31) ⟨c0, i0, .inl cp⟩ (zc.mono (by decide)) zi
      refine ⟨_, rfl, _, rfl, _, rfl, _, rfl, _, _, rfl, rfl, _, rfl, rc, _, rfl, ⟨c0, i0, .inl cp⟩, zc.mono (by decide), zi.mono (by decide), fun H6 q s6 nq hq => ?_⟩
      obtain ⟨w1, hw1⟩ : ∃ w, w = (low (rc, if rd - ra < 0 then -(rd - ra) else rd - ra)).1 := ⟨_, rfl⟩
      rw [← hw1] at hq q1 l1
      have zw1 : Sm 31 w1 := by rw [hw1]; exact zl1.1
      refine ⟨q, _, _, _, rfl, rfl, SqT.of hq, atI_nat (j := 0) rfl, _, _, rfl, rfl, dvw l1 zw1 (by decide) (by decide), ?_⟩
      have g1p : 0 < rc / w1 := by rw [q1]; exact gd
      have zg1 : Sm 31 (rc / w1) := by
        rw [q1, ← gc_if]
        exact gc_sm (n := 31) ⟨c0, i0, .inl cp⟩ (zc.mono (by decide)) zi
      have gd2 : 0 < gc (rc / w1) rb := gc_pos (.inr b1)
      have q2 : rc / w1 / (low (rc / w1, rb)).1 = gc (rc / w1) rb := div_div' g1p (gc_dvd1 _ _) gd2
      have l2 : 0 < (low (rc / w1, rb)).1 := div_pos' g1p (gc_dvd1 _ _) gd2
      have zl2 := low_sm (e := (rc / w1, rb)) (n := 31) ⟨Int.le_of_lt g1p, b0, .inl g1p⟩ zg1 (zb.mono (by decide))
      refine ⟨_, rfl, _, rfl, _, rfl, rc / w1, rb, rfl, ⟨Int.le_of_lt g1p, b0, .inl g1p⟩, zg1.mono (by decide), zb.mono (by decide), fun H7 q7 s7 nq7 hq7 => ?_⟩
      obtain ⟨w2, hw2⟩ : ∃ w, w = (low (rc / w1, rb)).1 := ⟨_, rfl⟩
      rw [← hw2] at hq7 q2 l2
      have zw2 : Sm 31 w2 := by rw [hw2]; exact zl2.1
      refine ⟨q7, _, _, _, rfl, rfl, SqT.of hq7, atI_nat (j := 0) rfl, _, _, rfl, rfl, dvw l2 zw2 (by decide) (by decide), ?_⟩
      have zby : Sm 31 (rc / w1 / w2) := by
        rw [q2]
        exact gc_sm (t := rc / w1) (b := rb) (n := 31) ⟨Int.le_of_lt g1p, b0, .inl g1p⟩ zg1 (zb.mono (by decide))
      have byp : 0 < rc / w1 / w2 := by rw [q2]; exact gd2
      have eby : gc (gc rc (rd - ra)) rb = rc / w1 / w2 := by rw [q2, q1]
      rw [eby] at k
      have s57 := (s5.trans s6).trans s7
      refine ⟨_, rfl, _, rfl, _, _, rfl, rfl, dvw byp zby (by decide) (by decide), _, rfl, _, rfl, _, _, rfl, rfl, _, rfl, _, _, rfl, rfl, dvw byp zby (by decide) (by decide), _, rfl, _, rfl, _, _, rfl, rfl, dvw byp zby (by decide) (by decide), (by show 3 ≤ sizeLine; decide), fun p np => ?_⟩
      exact k _ _ ((sB.trans s57).trans (same_upd np)) (tup3 s57 np)
end
end RL

set_option maxHeartbeats 4000000
namespace RL
open PySem L2 PySem.Spec PyProof.Rows
/-! ### odd things -/
def gK : List Str := [Str.ofString "never", Str.ofString "more", Str.ofString "limit"]
def nK : List Str := [Str.ofString "value", Str.ofString "most"]
def zK : List Str := [Str.ofString "", Str.ofString "x", Str.ofString "rail"]
def strB (s : Str) : Bool := decide (s ∈ gK) || (decide (s ∈ nK) || decide (s ∈ zK))
def hd1 : PyData → Bool
  | .str s => decide (s ∈ zK)
  | _ => true
def hdB : List PyData → Bool
  | d :: _ => hd1 d
  | [] => true
def smB (d : PyData) : Bool := decide ((prOf d).1.natAbs < 2 ^ 200) && decide ((prOf d).2.natAbs < 2 ^ 200)
def plB (d : PyData) : Bool := ((!d.hasDict && SeqAt.shaped d) || isNilD d) && (smB d && lenB d)
def clB : PyData → Bool
  | .str s => strB s
  | .tuple ds => hdB ds && ds.all plB
  | _ => true
def oddOk (d : PyData) : Bool := plB d && clB d
theorem plB_head {d : PyData} (h : plB d = true) : HeadOk d := by
  unfold plB at h
  simp only [Bool.and_eq_true, Bool.or_eq_true, Bool.not_eq_true'] at h
  rcases h.1 with ⟨a, b⟩ | a
  · exact .inl ⟨a, b⟩
  · exact .inr (nil_of a)
theorem head_nd {d : PyData} (h : HeadOk d) : Nd d := h.imp (fun z => z.1) id
theorem plB_pl {d : PyData} (h : plB d = true) : PlOk d := by
  refine ⟨head_nd (plB_head h), ?_⟩
  unfold plB smB at h
  simp only [Bool.and_eq_true, decide_eq_true_eq] at h
  exact ⟨⟨Sm.mono (m := 200) h.2.1.1 (by decide), Sm.mono (m := 200) h.2.1.2 (by decide)⟩, h.2.2⟩
theorem odd_pb {d : PyData} (h : oddOk d = true) : plB d = true := ((Bool.and_eq_true _ _).mp h).1
theorem odd_head {d : PyData} (h : oddOk d = true) : HeadOk d := plB_head (odd_pb h)
theorem odd_pl {d : PyData} (h : oddOk d = true) : PlOk d := plB_pl (odd_pb h)
theorem odd_cl {d : PyData} (h : oddOk d = true) : clB d = true := ((Bool.and_eq_true _ _).mp h).2
def spOdd : Sp := fun vs H Q _ => ∃ (c : Addr) (n : Nat), vs = [.ref c] ∧ TapeAt c n H ∧ n + 1 ≤ 1000000 ∧ ∀ H' v d, But c H H' → TapeAt c (n + 1) H' → Dh c H' v d → oddOk d = true → Q v H'
section
variable {P : Program} {w : World} {K : PySem.W.Frag} {mg : Str → Option Value} {base : Heap} {tG t1 t3 tC tK : Tok} {aO aW aCh : Addr}
abbrev s_law_anyodd : Stmt := top 87
theorem sc_law_anyodd : FnScope ["_law_tape", "_law_odd"] ["_law_tape"] (defScope s_law_anyodd) := ⟨rfl, rfl, rfl, by decide +kernel, rfl, by decide +kernel, by decide +kernel⟩

theorem ok_anyodd {f : Addr} {fd : FuncData} (F : Fun K "_law_anyodd" "_law_anyodd" s_law_anyodd f fd) (D_law_pick : Df P w K mg base 1 "_law_pick" ["_law_tape", "_law_many"] spDraw) : FnOk P w K mg base CX0 2 f fd ["_law_tape"] spOdd := by
  refine F.ok sc_law_anyodd (fun vs H Q E h => ?_) (fun cdv A outer s H vs Q E hr h => ?_)
  · obtain ⟨c, n, rfl, _⟩ := h
    rfl
  · obtain ⟨c, n, rfl, ht, hn, k⟩ := h
    refine ⟨_, (C8.pss_cut (ps_set (i := 1) sc_law_anyodd.nd rfl (.inl rfl) (pd_lst (pds_cons pd_non (pds_cons pd_bl (pds_cons pd_bl (pds_cons pd_str (pds_cons pd_str (pds_cons (pd_neg pd_int) (pds_cons pd_int (pds_cons pd_int (pds_cons (pd_pow pd_int pd_int) (pds_cons (pd_tup pds_nil) (pds_cons (pd_tup (pds_cons pd_int pds_nil)) (pds_cons (pd_tup (pds_cons pd_int (pds_cons pd_int (pds_cons pd_int pds_nil)))) (pds_cons (pd_tup (pds_cons pd_int (pds_cons pd_int pds_nil))) (pds_cons (pd_tup (pds_cons pd_int (pds_cons pd_int pds_nil))) (pds_cons (pd_tup (pds_cons (pd_neg pd_int) (pds_cons pd_int pds_nil))) (pds_cons (pd_tup (pds_cons pd_int (pds_cons (pd_neg pd_int) pds_nil))) pds_nil))))))))))))))))))
      (C8.pss_cut (ps_set (i := 1) sc_law_anyodd.nd rfl (.inl rfl) (pe_op op_cat (pv 1) (pd_lst (pds_cons (pd_tup (pds_cons pd_bl (pds_cons pd_int pds_nil))) (pds_cons (pd_tup (pds_cons pd_int (pds_cons pd_bl pds_nil))) (pds_cons (pd_tup (pds_cons pd_str (pds_cons pd_int pds_nil))) (pds_cons (pd_tup (pds_cons (pd_tup (pds_cons pd_str (pds_cons pd_int pds_nil))) pds_nil)) (pds_cons (pd_tup (pds_cons (pd_tup (pds_cons pd_str (pds_cons pd_int pds_nil))) pds_nil)) (pds_cons (pd_tup (pds_cons (pd_tup (pds_cons pd_str (pds_cons pd_bl pds_nil))) pds_nil)) (pds_cons (pd_lst pds_nil) (pds_cons pd_dict pds_nil)))))))))))
      (C8.pss_cut (ps_set (i := 1) sc_law_anyodd.nd rfl (.inl rfl) (pe_op op_cat (pv 1) (pd_lst (pds_cons (pd_lst (pds_cons (pd_tup (pds_cons pd_str (pds_cons pd_int pds_nil))) pds_nil)) (pds_cons (pd_tup (pds_cons (pd_tup (pds_cons pd_str pds_nil)) pds_nil)) (pds_cons (pd_tup (pds_cons (pd_tup (pds_cons pd_str (pds_cons pd_int pds_nil))) pds_nil)) (pds_cons (pd_tup (pds_cons (pd_lst (pds_cons pd_str (pds_cons pd_int pds_nil))) pds_nil)) (pds_cons (pd_tup (pds_cons (pd_tup (pds_cons (pd_tup (pds_cons pd_str (pds_cons pd_int pds_nil))) pds_nil)) pds_nil)) (pds_cons (pd_rep (pd_tup (pds_cons (pd_tup (pds_cons pd_str (pds_cons pd_int pds_nil))) pds_nil)) pd_int) pds_nil)))))))))
      (C8.pss_cut (ps_set (i := 1) sc_law_anyodd.nd rfl (.inl rfl) (pe_op op_cat (pv 1) (pd_lst (pds_cons (pd_tup (pds_cons (pd_add (pd_pow pd_int pd_int) pd_int) (pds_cons pd_int pds_nil))) (pds_cons (pd_tup (pds_cons pd_int (pds_cons (pd_add (pd_pow pd_int pd_int) pd_int) pds_nil))) (pds_cons (pd_add (pd_pow pd_int pd_int) pd_int) (pds_cons (pd_tup (pds_cons (pd_lst pds_nil) pds_nil)) (pds_cons (pd_tup (pds_cons (pd_tup pds_nil) (pds_cons (pd_tup pds_nil) pds_nil))) (pds_cons pd_str (pds_cons pd_str (pds_cons pd_str pds_nil)))))))))))
      (C8.pss_cut (ps_set (i := 1) sc_law_anyodd.nd rfl (.inl rfl) (pe_op op_cat (pv 1) (pd_lst (pds_cons pd_int (pds_cons pd_int (pds_cons pd_int (pds_cons pd_int (pds_cons (pd_tup (pds_cons pd_int (pds_cons pd_int pds_nil))) (pds_cons (pd_tup (pds_cons pd_int (pds_cons pd_int pds_nil))) (pds_cons (pd_pow pd_int pd_int) (pds_cons (pd_tup (pds_cons (pd_tup (pds_cons pd_str (pds_cons pd_int pds_nil))) pds_nil)) (pds_cons (pd_rep (pd_tup (pds_cons (pd_tup (pds_cons pd_str (pds_cons pd_int pds_nil))) pds_nil)) pd_int) pds_nil))))))))))))
      (C8.pss_cut (ps_set (i := 1) sc_law_anyodd.nd rfl (.inl rfl) (pe_op op_cat (pv 1) (pd_lst (pds_cons (pd_tup (pds_cons (pd_tup (pds_cons pd_str (pds_cons pd_int pds_nil))) (pds_cons (pd_tup (pds_cons pd_str (pds_cons pd_int pds_nil))) pds_nil))) pds_nil))))
      (pss_one (ps_ret (pe_ix ix_list (pv 1) (pe_df D_law_pick (hr.mono (by decide)) (by rfl) (pa_cons (pv 0) (pa_cons pe_int pa_nil))) (fun _ _ => rfl)))))))))), ?_⟩
    refine ⟨fun σ' H' => ∃ l vs ds, σ' = [some (.ref c), some (.ref l)] ∧ Same H H' ∧ H l = none ∧ H' l = some (.lst vs) ∧ Dns H H' vs ds ∧ ds.all oddOk = true ∧ ds.length = 16, ?_, ?_⟩
    · intro H2 v s2 hv
      obtain ⟨a, vs, rfl, ha, hvs⟩ := Dr.list hv
      exact ⟨a, vs, _, rfl, s2, (fresh_get ha).1, (fresh_get ha).2, hvs, by decide +kernel, rfl⟩
    rintro σ1 H1 ⟨l, vs, ds, rfl, s1, nl0, hl, hd, ok, len⟩
    refine ⟨fun σ' H' => ∃ l vs ds, σ' = [some (.ref c), some (.ref l)] ∧ Same H H' ∧ H l = none ∧ H' l = some (.lst vs) ∧ Dns H H' vs ds ∧ ds.all oddOk = true ∧ ds.length = 24, ?_, ?_⟩
    · refine ⟨_, rfl, ?_⟩
      intro H2 v s2 hv
      obtain ⟨a, us, rfl, ha, hvs⟩ := Dr.list hv
      have ha' := (fresh_get ha).2
      refine ⟨l, a, _, _, rfl, rfl, s2 _ _ hl, ha', ?_, fun q nq => ?_⟩
      · rw [hd.1, hvs.1, len]
        show _ ≤ sizeLine
        decide
      have sq := same_upd (o := .lst (vs ++ us)) nq
      refine ⟨q, _, ds ++ _, rfl, (s1.trans s2).trans sq, (s1.trans s2).free nq, upd_same, Drs.app (Drs.mono hd (fresh_up (s2.trans sq))) (Drs.mono (Drs.mono hvs (fresh_dn s1)) (fresh_up sq)), ?_, ?_⟩
      · rw [List.all_append, ok]
        decide +kernel
      · rw [List.length_append, len]
        rfl
    rintro σ1 H1 ⟨l, vs, ds, rfl, s1, nl0, hl, hd, ok, len⟩
    refine ⟨fun σ' H' => ∃ l vs ds, σ' = [some (.ref c), some (.ref l)] ∧ Same H H' ∧ H l = none ∧ H' l = some (.lst vs) ∧ Dns H H' vs ds ∧ ds.all oddOk = true ∧ ds.length = 30, ?_, ?_⟩
    · refine ⟨_, rfl, ?_⟩
      intro H2 v s2 hv
      obtain ⟨a, us, rfl, ha, hvs⟩ := Dr.list hv
      have ha' := (fresh_get ha).2
      refine ⟨l, a, _, _, rfl, rfl, s2 _ _ hl, ha', ?_, fun q nq => ?_⟩
      · rw [hd.1, hvs.1, len]
        show _ ≤ sizeLine
        decide
      have sq := same_upd (o := .lst (vs ++ us)) nq
      refine ⟨q, _, ds ++ _, rfl, (s1.trans s2).trans sq, (s1.trans s2).free nq, upd_same, Drs.app (Drs.mono hd (fresh_up (s2.trans sq))) (Drs.mono (Drs.mono hvs (fresh_dn s1)) (fresh_up sq)), ?_, ?_⟩
      · rw [List.all_append, ok]
        decide +kernel
      · rw [List.length_append, len]
        rfl
    rintro σ1 H1 ⟨l, vs, ds, rfl, s1, nl0, hl, hd, ok, len⟩
    refine ⟨fun σ' H' => ∃ l vs ds, σ' = [some (.ref c), some (.ref l)] ∧ Same H H' ∧ H l = none ∧ H' l = some (.lst vs) ∧ Dns H H' vs ds ∧ ds.all oddOk = true ∧ ds.length = 38, ?_, ?_⟩
    · refine ⟨_, rfl, ?_⟩
      intro H2 v s2 hv
      obtain ⟨a, us, rfl, ha, hvs⟩ := Dr.list hv
      have ha' := (fresh_get ha).2
      refine ⟨l, a, _, _, rfl, rfl, s2 _ _ hl, ha', ?_, fun q nq => ?_⟩
      · rw [hd.1, hvs.1, len]
        show _ ≤ sizeLine
        decide
      have sq := same_upd (o := .lst (vs ++ us)) nq
      refine ⟨q, _, ds ++ _, rfl, (s1.trans s2).trans sq, (s1.trans s2).free nq, upd_same, Drs.app (Drs.mono hd (fresh_up (s2.trans sq))) (Drs.mono (Drs.mono hvs (fresh_dn s1)) (fresh_up sq)), ?_, ?_⟩
      · rw [List.all_append, ok]
        decide +kernel
      · rw [List.length_append, len]
        rfl
    rintro σ1 H1 ⟨l, vs, ds, rfl, s1, nl0, hl, hd, ok, len⟩
    refine ⟨fun σ' H' => ∃ l vs ds, σ' = [some (.ref c), some (.ref l)] ∧ Same H H' ∧ H l = none ∧ H' l = some (.lst vs) ∧ Dns H H' vs ds ∧ ds.all oddOk = true ∧ ds.length = 47, ?_, ?_⟩
    · refine ⟨_, rfl, ?_⟩
      intro H2 v s2 hv
      obtain ⟨a, us, rfl, ha, hvs⟩ := Dr.list hv
      have ha' := (fresh_get ha).2
      refine ⟨l, a, _, _, rfl, rfl, s2 _ _ hl, ha', ?_, fun q nq => ?_⟩
      · rw [hd.1, hvs.1, len]
        show _ ≤ sizeLine
        decide
      have sq := same_upd (o := .lst (vs ++ us)) nq
      refine ⟨q, _, ds ++ _, rfl, (s1.trans s2).trans sq, (s1.trans s2).free nq, upd_same, Drs.app (Drs.mono hd (fresh_up (s2.trans sq))) (Drs.mono (Drs.mono hvs (fresh_dn s1)) (fresh_up sq)), ?_, ?_⟩
      · rw [List.all_append, ok]
        decide +kernel
      · rw [List.length_append, len]
        rfl
    rintro σ1 H1 ⟨l, vs, ds, rfl, s1, nl0, hl, hd, ok, len⟩
    refine ⟨fun σ' H' => ∃ l vs ds, σ' = [some (.ref c), some (.ref l)] ∧ Same H H' ∧ H l = none ∧ H' l = some (.lst vs) ∧ Dns H H' vs ds ∧ ds.all oddOk = true ∧ ds.length = 48, ?_, ?_⟩
    · refine ⟨_, rfl, ?_⟩
      intro H2 v s2 hv
      obtain ⟨a, us, rfl, ha, hvs⟩ := Dr.list hv
      have ha' := (fresh_get ha).2
      refine ⟨l, a, _, _, rfl, rfl, s2 _ _ hl, ha', ?_, fun q nq => ?_⟩
      · rw [hd.1, hvs.1, len]
        show _ ≤ sizeLine
        decide
      have sq := same_upd (o := .lst (vs ++ us)) nq
      refine ⟨q, _, ds ++ _, rfl, (s1.trans s2).trans sq, (s1.trans s2).free nq, upd_same, Drs.app (Drs.mono hd (fresh_up (s2.trans sq))) (Drs.mono (Drs.mono hvs (fresh_dn s1)) (fresh_up sq)), ?_, ?_⟩
      · rw [List.all_append, ok]
        decide +kernel
      · rw [List.length_append, len]
        rfl
    rintro σ1 H1 ⟨l, vs, ds, rfl, s1, nl0, hl, hd, ok, len⟩
    obtain ⟨_, _, _, hc, _⟩ := id ht
    have t1 := ht.same s1
    have hd := Dns.tape hd ht
    refine ⟨_, rfl, _, rfl, c, n, 48, rfl, t1, by omega, by decide, sm_p (by decide) (by decide), fun H2 j b2 t2 j0 j1 => ?_⟩
    obtain ⟨i, hi, rfl⟩ : ∃ i : Nat, i < ds.length ∧ j = (i : Int) := ⟨j.toNat, by omega, (Int.toNat_of_nonneg j0).symm⟩
    obtain ⟨x, hx, hdx⟩ := Drs.at_ hd (List.getElem?_eq_getElem hi)
    have nlc : l ≠ c := by
      rintro rfl
      rw [hc] at nl0
      cases nl0
    refine ⟨l, vs, _, _, rfl, rfl, SqL.of (b2 _ _ nlc hl), atI_nat hx, ?_⟩
    exact k _ x _ ((But.of s1).trans b2) t2 (Dh.but hdx b2) (all_at ok (List.getElem?_eq_getElem hi))
end
end RL

set_option maxHeartbeats 4000000
namespace RL
open PySem L2 PySem.Spec PyProof.Rows
/-! ### claims -/
def lenOk (r : List PyData) : Prop := 2 ≤ r.length ∧ r.length ≤ 3
def keyOk (s : Str) (r : List PyData) : Prop := s ∈ gK ∨ (s ∈ nK ∧ lenOk r) ∨ s ∈ zK
def ClaimOk (d : PyData) : Prop := ∀ s r, d = .tuple (.str s :: r) → keyOk s r ∧ ∀ x ∈ r, PlOk x
theorem claim_not {d : PyData} (h : ∀ ds, d ≠ .tuple ds) : ClaimOk d := fun s r e => absurd e (h _)
theorem claim_val {s0 : Str} {r : List PyData} (hs : s0 ∈ gK) (h : ∀ x ∈ r, PlOk x) : ClaimOk (.tuple (.str s0 :: r)) := fun s r' e => by
  obtain ⟨e1, e2⟩ := List.cons.inj (PyData.tuple.inj e)
  subst e2
  rw [← PyData.str.inj e1]
  exact ⟨.inl hs, h⟩
theorem claim_odd0 {x : PyData} {r : List PyData} (hx : oddOk x = true) (l : lenOk r) (h : ∀ y ∈ r, PlOk y) : ClaimOk (.tuple (x :: r)) := fun s r' e => by
  obtain ⟨e1, e2⟩ := List.cons.inj (PyData.tuple.inj e)
  subst e2
  have c := odd_cl hx
  rw [e1] at c
  have c : strB s = true := c
  unfold strB at c
  simp only [Bool.or_eq_true, decide_eq_true_eq] at c
  refine ⟨?_, h⟩
  rcases c with c | c | c
  · exact .inl c
  · exact .inr (.inl ⟨c, l⟩)
  · exact .inr (.inr c)
theorem claim_odd {d : PyData} (hx : oddOk d = true) : ClaimOk d := fun s r e => by
  have c := odd_cl hx
  subst e
  have c : (decide (s ∈ zK) && (PyData.str s :: r).all plB) = true := c
  simp only [Bool.and_eq_true, decide_eq_true_eq, List.all_eq_true] at c
  exact ⟨.inr (.inr c.1), fun x hx => plB_pl (c.2 x (List.mem_cons_of_mem _ hx))⟩
theorem pl_set {r : List PyData} (h : ∀ y ∈ r, PlOk y) {x : PyData} (hx : PlOk x) (j : Nat) : ∀ y ∈ r.take j ++ [x] ++ r.drop (j + 1), PlOk y := by
  intro y hy
  rcases List.mem_append.mp hy with hy | hy
  · rcases List.mem_append.mp hy with hy | hy
    · exact h y (List.mem_of_mem_take hy)
    · rw [List.mem_singleton.mp hy]
      exact hx
  · exact h y (List.mem_of_mem_drop hy)
theorem pl_list {es : List PyData} (h : PlOk (.tuple es)) : PlOk (.list es) := by
  refine ⟨.inl ?_, ⟨by show Sm 3900 0; unfold Sm; decide +kernel, by show Sm 3900 1; unfold Sm; decide +kernel⟩, rfl⟩
  rcases h.1 with n | n
  · exact n
  · cases n
theorem pl_inner {es rest : List PyData} (h : PlOk (.tuple (.tuple es :: rest))) : PlOk (.tuple (.list es :: rest)) := by
  have z : prOf (.tuple (.list es :: rest)) = (0, 1) := by
    match rest with
    | [] => rfl
    | [_] => rfl
    | _ :: _ :: _ => rfl
  refine ⟨.inl ?_, ⟨by rw [z]; unfold Sm; decide +kernel, by rw [z]; unfold Sm; decide +kernel⟩, h.2.2⟩
  rcases h.1 with n | n
  · exact n
  · cases n
def spBent : Sp := fun vs H Q _ => ∃ (c : Addr) (n : Nat) (t : Addr) (ys : List V) (r : List PyData) (s0 : Str), vs = [.ref c, .ref t] ∧ s0 ∈ gK ∧ TapeAt c n H ∧ n + 3 ≤ 1000000 ∧ H t = some (.tup ys) ∧ Dhs c H ys (.str s0 :: r) ∧ lenOk r ∧ (∀ x ∈ r, PlOk x) ∧
  ∀ H' v d, But c H H' → TapeAt c (n + 3) H' → Dh c H' v d → ClaimOk d → Q v H'
theorem dh_at {c : Addr} {n : Nat} {H : Hp} {a : Addr} {vs : List V} {ds : List PyData} (t : TapeAt c n H) (h : H a = some (.tup vs)) (hs : Dhs c H vs ds) : Dh c H (.ref a) (.tuple ds) := Dr.ts (hid_of h (t.nt h)) hs
section
variable {P : Program} {w : World} {K : PySem.W.Frag} {mg : Str → Option Value} {base : Heap} {tG t1 t3 tC tK : Tok} {aO aW aCh : Addr}
abbrev s_law_bent : Stmt := top 88
theorem sc_law_bent : FnScope ["_law_tape", "_law_said", "_law_way", "_law_place", "_law_odd", "_law_thing", "_law_is_inner"] ["_law_tape", "_law_said"] (defScope s_law_bent) := ⟨rfl, rfl, rfl, by decide +kernel, rfl, by decide +kernel, by decide +kernel⟩

theorem ok_bent {f : Addr} {fd : FuncData} (F : Fun K "_law_bent" "_law_bent" s_law_bent f fd) (T : TxtA K mg w tG t1 t3 tC tK aO aW aCh) (D_law_pick : Df P w K mg base 1 "_law_pick" ["_law_tape", "_law_many"] spDraw) (D_law_anyodd : Df P w K mg base 2 "_law_anyodd" ["_law_tape"] spOdd) : FnOk P w K mg base CX0 3 f fd ["_law_tape", "_law_said"] spBent := by
  refine F.ok sc_law_bent (fun vs H Q E h => ?_) (fun cdv A outer s H vs Q E hr h => ?_)
  · obtain ⟨c, n, t, ys, r, s0, rfl, _⟩ := h
    rfl
  · obtain ⟨c, n, t, ys, r, s0, rfl, gs, ht, hn, hS, hys, lr, hpl, k⟩ := h
    refine ⟨_, (C8.pss_cut (ps_par3 (by rfl) sc_law_bent.nd (i := 2) (j := 3) (l := 4) rfl rfl rfl (by decide) (by decide) (by decide) rfl rfl rfl (pa_cons (pe_df D_law_pick (hr.mono (by decide)) (by rfl) (pa_cons (pv 0) (pa_cons pe_int pa_nil))) (pa_cons (pe_df D_law_pick (hr.mono (by decide)) (by rfl) (pa_cons (pv 0) (pa_cons (pe_callB call_len_seq (by rfl) T.len (by decide +kernel) (pa_cons (pv 1) pa_nil)) pa_nil))) (pa_cons (pe_df D_law_anyodd (hr.mono (by decide)) (by rfl) (pa_cons (pv 0) pa_nil)) pa_nil))) (by rfl))
      (pss_cons (ps_if (pt_cmpR op_lt (pv 2) pe_int (nomark _)) (pss_one (ps_ret (pe_op op_catB (pe_op op_catB (pe_slice sl_tupB (pv 1) po_none (po_some (pv 3))) (pe_tup (pa_cons (pv 4) pa_nil))) (pe_slice sl_tupB (pv 1) (po_some (pe_op op_add (pv 3) pe_int)) po_none)))) pss_nil)
      (pss_cons (ps_if (pt_cmpR op_eq (pv 2) pe_int (nomark _)) (pss_one (ps_ret (pe_slice sl_tupB (pv 1) po_none (po_some (pe_un un_neg pe_int))))) pss_nil)
      (pss_cons (ps_if (pt_cmpR op_eq (pv 2) pe_int (nomark _)) (pss_one (ps_ret (pe_op op_catB (pv 1) (pe_tup (pa_cons (pv 4) pa_nil))))) pss_nil)
      (pss_cons (ps_set (i := 5) sc_law_bent.nd rfl (.inl rfl) (pe_ix ix_tup (pv 1) (pv 3) (fun _ _ => rfl)))
      (pss_cons (ps_if (PW.pt (pw_and (pt_cmpR op_gt (pv 2) pe_int (nomark _)) (pw_and1 (pt_val (pe_callB call_isi (by rfl) T.isinstance (by decide +kernel) (pa_cons (pv 5) (pa_cons (pe_bltn (v := .ty "tuple") (by rfl) T.tuple_ (by decide +kernel) rfl) pa_nil))))))) (C8.pss_cut (ps_set (i := 6) sc_law_bent.nd rfl (.inl rfl) (pe_and (pe_cmpR op_eq (pv 2) pe_int (nomark _)) (pe_one (pe_callB call_isi (by rfl) T.isinstance (by decide +kernel) (pa_cons (pe_ix ix_tup (pe_op op_catB (pv 5) (pe_tup (pa_cons pe_int pa_nil))) pe_int (fun _ _ => rfl)) (pa_cons (pe_bltn (v := .ty "tuple") (by rfl) T.tuple_ (by decide +kernel) rfl) pa_nil))))))
      (C8.pss_cut (ps_set (i := 5) sc_law_bent.nd rfl (.inl rfl) (pe_ifExp (pt_val (pv 6)) (pe_op op_catB (pe_tup (pa_cons (pe_callTy call_list_of (by rfl) T.list_ (by decide +kernel) (pa_cons (pe_ix ix_tup (pv 5) pe_int (fun _ _ => rfl)) pa_nil)) pa_nil)) (pe_slice sl_tupB (pv 5) (po_some pe_int) po_none)) (pe_callTy call_list_of (by rfl) T.list_ (by decide +kernel) (pa_cons (pv 5) pa_nil))))
      (pss_one (ps_ret (pe_op op_catB (pe_op op_catB (pe_slice sl_tupB (pv 1) po_none (po_some (pv 3))) (pe_tup (pa_cons (pv 5) pa_nil))) (pe_slice sl_tupB (pv 1) (po_some (pe_op op_add (pv 3) pe_int)) po_none)))))) pss_nil)
      (pss_one (ps_ret (pe_ifExp (pt_cmpR op_eq (pv 2) pe_int (nomark _)) (pe_callTy call_list_of (by rfl) T.list_ (by decide +kernel) (pa_cons (pv 1) pa_nil)) (pv 4)))))))))), ?_⟩
    have ly : ys.length = r.length + 1 := by rw [hys.1, List.length_cons]
    obtain ⟨lr2, lr3⟩ := id lr
    refine ⟨fun σ' H' => ∃ (way : Int) (i : Nat) (odd : V) (d : PyData), σ' = [some (.ref c), some (.ref t), some (.int way), some (.int (i : Int)), some odd, none, none] ∧ i < r.length + 1 ∧ But c H H' ∧ TapeAt c (n + 3) H' ∧ H' t = some (.tup ys) ∧ Dhs c H' ys (.str s0 :: r) ∧ Dh c H' odd d ∧ oddOk d = true, ?_, ?_⟩
    · refine ⟨_, rfl, c, n, 11, rfl, ht, by omega, by decide, sm_p (by decide) (by decide), fun H1 way b1 t1 w0 w1 => ?_⟩
      have ntc := ht.nt hS
      refine ⟨_, rfl, _, rfl, t, _, rfl, .inr (SqT.of (b1 _ _ ntc hS)), c, _, _, rfl, t1, by omega, by omega, sm_p (by omega) (by decide), fun H2 pl b2 t2 p0 p1 => ?_⟩
      refine ⟨_, rfl, c, _, rfl, t2, by omega, fun H3 odd d b3 t3 hd hok => ?_⟩
      have bA := (b1.trans b2).trans b3
      refine ⟨_, _, _, rfl, way, pl.toNat, odd, d, ?_, by omega, bA, t3, bA _ _ ntc hS, hys.but bA, hd, hok⟩
      rw [Int.toNat_of_nonneg p0]
      rfl
    rintro σ1 H1 ⟨way, i, odd, d, rfl, i5, b1, t1, hS1, hys1, hod, hok⟩
    -- one place changed
    have setp : ∀ {H2 : Hp} {rr : Addr} {x : V} {dx : PyData}, Same H1 H2 → H2 rr = some (.tup (ys.take i ++ [x] ++ ys.drop (i + 1))) → Dh c H2 x dx → (oddOk dx = true ∨ (PlOk dx ∧ 0 < i)) → Q (.ref rr) H2 := fun {H2 rr x dx} s2 hr hx hy => by
      have tt := t1.same s2
      have hh : Dhs c H2 (ys.take i ++ [x] ++ ys.drop (i + 1)) ((PyData.str s0 :: r).take i ++ [dx] ++ (PyData.str s0 :: r).drop (i + 1)) := Drs.app (Drs.app (Drs.take (hys1.same s2) i) (Drs.cons hx Drs.nil)) (Drs.drop (hys1.same s2) (i + 1))
      refine k H2 _ _ (b1.trans (.of s2)) tt (dh_at tt hr hh) ?_
      cases i with
      | zero =>
        rcases hy with hy | ⟨_, z⟩
        · exact claim_odd0 hy lr hpl
        · exact absurd z (by decide)
      | succ j =>
        refine claim_val gs (pl_set hpl ?_ j)
        rcases hy with hy | ⟨hy, _⟩
        · exact odd_pl hy
        · exact hy
    have li : i ≤ ys.length := by omega
    have li1 : i + 1 ≤ ys.length := by omega
    have c1 : cutV ys none (some (i : Int)) = ys.take i := cutT li
    have c2 : cutV ys (some ((i : Int) + 1)) none = ys.drop (i + 1) := cutD (i := i + 1) li1
    have tk : (ys.take i).length ≤ r.length + 1 := by
      rw [List.length_take]
      omega
    have dk : (ys.drop (i + 1)).length ≤ r.length + 1 := by
      rw [List.length_drop]
      omega
    refine ⟨_, rfl, _, _, rfl, rfl, _, rfl, ite2 (fun e => ?_) (fun e => ?_)⟩
    · refine ⟨_, rfl, _, rfl, _, rfl, t, ys, rfl, hS1, fun H2 p s2 hp => ?_⟩
      rw [c1] at hp
      refine ⟨_, rfl, (by show 1 ≤ sizeLine; decide), fun q nq => ?_⟩
      have sq := same_upd (o := .tup [odd]) nq
      refine ⟨p, q, _, _, rfl, rfl, sq _ _ hp, upd_same, ?_, fun H3 u s3 hu => ?_⟩
      · show _ + 1 ≤ 1000
        omega
      have sA := (s2.trans sq).trans s3
      refine ⟨_, rfl, _, rfl, _, _, rfl, rfl, _, rfl, t, ys, rfl, sA _ _ hS1, fun H4 v s4 hv => ?_⟩
      rw [c2] at hv
      refine ⟨u, v, _, _, rfl, rfl, s4 _ _ hu, hv, ?_, fun H5 z s5 hz => ?_⟩
      · rw [List.length_append]
        show _ + 1 + _ ≤ 1000
        omega
      have sB := (sA.trans s4).trans s5
      exact setp sB hz (hod.same sB) (.inl hok)
    refine ⟨_, rfl, rfl, _, rfl, ite2 (fun e => ?_) (fun e => ?_)⟩
    · refine ⟨_, rfl, _, rfl, _, rfl, t, ys, rfl, hS1, fun H2 p s2 hp => ?_⟩
      have tt := t1.same s2
      rw [show cutV ys none (some (-1)) = ys.take r.length by rw [cutL, ly, Nat.add_sub_cancel]] at hp
      refine k H2 _ _ (b1.trans (.of s2)) tt (dh_at tt hp (Drs.take (hys1.same s2) r.length)) ?_
      have tk1 : (PyData.str s0 :: r).take r.length = .str s0 :: r.take (r.length - 1) := by
        obtain ⟨m, hm⟩ : ∃ m, r.length = m + 1 := ⟨r.length - 1, by omega⟩
        rw [hm]
        rfl
      rw [tk1]
      exact claim_val gs fun x hx => hpl x (List.mem_of_mem_take hx)
    refine ⟨_, rfl, rfl, _, rfl, ite2 (fun e => ?_) (fun e => ?_)⟩
    · refine ⟨_, rfl, _, rfl, (by show 1 ≤ sizeLine; decide), fun q nq => ?_⟩
      have sq := same_upd (o := .tup [odd]) nq
      refine ⟨t, q, _, _, rfl, rfl, sq _ _ hS1, upd_same, ?_, fun H3 u s3 hu => ?_⟩
      · rw [ly]
        show r.length + 1 + 1 ≤ 1000
        omega
      have sA := sq.trans s3
      have tt := t1.same sA
      refine k H3 _ _ (b1.trans (.of sA)) tt (dh_at tt hu (Drs.app (hys1.same sA) (Drs.cons (hod.same sA) Drs.nil))) ?_
      refine claim_val gs fun x hx => ?_
      rcases List.mem_append.mp hx with hx | hx
      · exact hpl x hx
      · rw [List.mem_singleton.mp hx]
        exact odd_pl hok
    have iys : i < ys.length := by omega
    obtain ⟨x, hx, hxd⟩ := Drs.atv hys1 (List.getElem?_eq_getElem iys)
    refine ⟨_, rfl, _, rfl, t, _, _, _, rfl, rfl, SqT.of hS1, atI_nat (j := i) (List.getElem?_eq_getElem iys), ?_⟩
    generalize ys[i] = xv at *
    refine both (fun rest => ⟨_, rfl, _, _, rfl, rfl, _, rfl, ite2 (fun e => ⟨_, rfl, _, _, _, _, isTupD x, rfl, .ty _, ty_dr (Dh.dr hxd), kit_tup x, _, rfl, ?_⟩) (fun e => rest)⟩) ?_
    · cases h1 : isTupD x with
      | false => exact iteF rest
      | true =>
      obtain ⟨es, rfl⟩ : ∃ ds, x = .tuple ds := by cases x <;> first | exact ⟨_, rfl⟩ | (cases h1; done)
      have ip : 0 < i ∧ PlOk (.tuple es) := by
        cases i with
        | zero => cases hx
        | succ j => exact ⟨by omega, hpl _ (List.mem_of_getElem? hx)⟩
      obtain ⟨u, us, rfl, hu, hus⟩ := Dr.tuple hxd
      obtain ⟨nuc, hu'⟩ := hid_get hu
      have lus : us.length ≤ 100 := by
        rw [hus.1]
        exact of_decide_eq_true ip.2.2.2
      refine iteT ?_
      refine ⟨fun σ' H' => ∃ b : Bool, σ' = [some (.ref c), some (.ref t), some (.int way), some (.int (i : Int)), some odd, some (.ref u), some (.bl b)] ∧ Same H1 H' ∧ (b = true → ∃ fs rest, es = .tuple fs :: rest), ?_, ?_⟩
      · refine ⟨_, rfl, rfl, _, rfl, ite2 (fun e => ?_) (fun e => ?_)⟩
        · refine ⟨_, rfl, (by show 1 ≤ sizeLine; decide), fun q nq => ?_⟩
          have sq := same_upd (o := .tup [.int 0]) nq
          refine ⟨u, q, _, _, rfl, rfl, sq _ _ hu', upd_same, (by show us.length + 1 ≤ 1000; omega), fun H3 z s3 hz => ?_⟩
          have sA := sq.trans s3
          cases es with
          | nil =>
            have : us = [] := List.eq_nil_of_length_eq_zero hus.1
            subst this
            refine ⟨z, _, _, _, rfl, rfl, SqT.of hz, atI_nat (j := 0) rfl, _, _, _, _, false, rfl, .ty _, .base (.int 0), kit_ty (by decide +kernel), ?_⟩
            exact ⟨false, rfl, sA, fun z => by cases z⟩
          | cons g gs =>
            obtain ⟨uv, ur, rfl⟩ : ∃ a b, us = a :: b := by
              cases us with
              | nil => exact absurd hus.1 (by simp)
              | cons a b => exact ⟨a, b, rfl⟩
            refine ⟨z, _, _, _, rfl, rfl, SqT.of hz, atI_nat (j := 0) rfl, _, _, _, _, isTupD g, rfl, .ty _, ty_dr ((Dr.mono hus.inv.1 hid_sub).mono sA), kit_tup g, ?_⟩
            refine ⟨isTupD g, rfl, sA, fun z => ?_⟩
            cases g with
            | tuple fs => exact ⟨fs, gs, rfl⟩
            | _ => cases z
        · exact ⟨false, rfl, Same.refl _, fun z => by cases z⟩
      rintro σ2 H2 ⟨b, rfl, s2, hb⟩
      refine ⟨fun σ' H' => ∃ th dx, σ' = [some (.ref c), some (.ref t), some (.int way), some (.int (i : Int)), some odd, some th, some (.bl b)] ∧ Same H1 H' ∧ Dh c H' th dx ∧ PlOk dx, ?_, ?_⟩
      · refine ⟨_, rfl, b, rfl, ?_⟩
        cases b with
        | false =>
          refine iteF ⟨_, rfl, u, _, rfl, .inr (SqT.of (s2 _ _ hu')), fun l nl => ?_⟩
          have sl := same_upd (o := .lst us) nl
          exact ⟨.ref l, .list es, rfl, s2.trans sl, Dh.newL (t1.same s2) nl (Drs.mono hus (hid_but (.of s2))), pl_list ip.2⟩
        | true =>
          obtain ⟨fs, gs, rfl⟩ := hb rfl
          obtain ⟨uv, ur, rfl⟩ : ∃ a b, us = a :: b := by
            cases us with
            | nil => exact absurd hus.1 (by simp)
            | cons a b => exact ⟨a, b, rfl⟩
          obtain ⟨hu0, hur⟩ := hus.inv
          obtain ⟨g, gv, rfl, hg, hgv⟩ := Dr.tuple hu0
          have hg' := (hid_get hg).2
          refine iteT ⟨_, rfl, u, _, _, _, rfl, rfl, SqT.of (s2 _ _ hu'), atI_nat (j := 0) rfl, g, _, rfl, .inr (SqT.of (s2 _ _ hg')), fun l nl => ?_⟩
          have sl := same_upd (o := .lst gv) nl
          refine ⟨(by show 1 ≤ sizeLine; decide), fun q nq => ?_⟩
          have sq := same_upd (o := .tup [.ref l]) nq
          have sA := (s2.trans sl).trans sq
          refine ⟨_, rfl, _, rfl, u, _, rfl, sA _ _ hu', fun H3 v s3 hv => ?_⟩
          rw [cut_tail1] at hv
          refine ⟨q, v, _, _, rfl, rfl, s3 _ _ upd_same, hv, (by show 1 + ur.length ≤ 1000; simp at lus; omega), fun H4 z s4 hz => ?_⟩
          have sB := (sA.trans s3).trans s4
          have t4 := t1.same sB
          have hl0 : Dh c (upd H2 l (.lst gv)) (.ref l) (.list fs) := Dh.newL (t1.same s2) nl (Drs.mono hgv (hid_but (.of s2)))
          refine ⟨.ref z, .tuple (.list fs :: gs), rfl, sB, dh_at t4 hz (Drs.cons (Dh.same hl0 ((sq.trans s3).trans s4)) (Drs.mono hur (hid_but (.of sB)))), pl_inner ip.2⟩
      rintro σ3 H3 ⟨th, dx, rfl, s3, hth, hdx⟩
      refine ⟨_, rfl, _, rfl, _, rfl, t, ys, rfl, s3 _ _ hS1, fun H4 p s4 hp => ?_⟩
      rw [c1] at hp
      refine ⟨_, rfl, (by show 1 ≤ sizeLine; decide), fun q nq => ?_⟩
      have sq := same_upd (o := .tup [th]) nq
      refine ⟨p, q, _, _, rfl, rfl, sq _ _ hp, upd_same, ?_, fun H5 w s5 hw => ?_⟩
      · show _ + 1 ≤ 1000
        omega
      have sA := (s4.trans sq).trans s5
      refine ⟨_, rfl, _, rfl, _, _, rfl, rfl, _, rfl, t, ys, rfl, (s3.trans sA) _ _ hS1, fun H6 v s6 hv => ?_⟩
      rw [c2] at hv
      refine ⟨w, v, _, _, rfl, rfl, s6 _ _ hw, hv, ?_, fun H7 z s7 hz => ?_⟩
      · rw [List.length_append]
        show _ + 1 + _ ≤ 1000
        omega
      have sB := (sA.trans s6).trans s7
      exact setp (s3.trans sB) hz (hth.same sB) (.inr ⟨hdx, ip.1⟩)
    · refine ⟨_, rfl, rfl, _, rfl, ite2 (fun e => ?_) (fun e => ?_)⟩
      · refine ⟨_, rfl, t, _, rfl, .inr (SqT.of hS1), fun l nl => ?_⟩
        have sl := same_upd (o := .lst ys) nl
        exact k _ _ (.list (.str s0 :: r)) (b1.trans (.of sl)) (t1.same sl) (Dh.newL t1 nl hys1) (claim_not fun ds z => by cases z)
      · exact ⟨_, rfl, k _ _ _ b1 t1 hod (claim_odd hok)⟩
end
end RL

set_option maxHeartbeats 4000000
namespace RL
open PySem L2 PySem.Spec PyProof.Rows
/-! ### what the law says of a claim -/
def chkB (s : Str) (r : List PyData) (e : PyData) : Bool := if s = Str.ofString "never" then nevB r e else if s = Str.ofString "more" then mreB r e else if s = Str.ofString "limit" then limB r e else false
def accK : PyData → List PyData → PyData → Bool
  | .str s, r, e => chkB s r e
  | _, _, _ => false
def accL : List PyData → PyData → Bool
  | k :: r, e => accK k r e
  | [], _ => false
def accB : PyData → PyData → Bool
  | .tuple ds, e => accL ds e
  | _, _ => false
def spDue : Sp := fun vs H Q _ => ∃ (v u : V) (d e : PyData), vs = [v, u] ∧ Dr H v d ∧ ClaimOk d ∧ Dr H u e ∧ PlOk e ∧ numG e = false ∧ ∀ H', Same H H' → Q (.bl (accB d e)) H'
theorem key_ne : Str.ofString "limit" ≠ Str.ofString "never" ∧ Str.ofString "limit" ≠ Str.ofString "more" ∧ Str.ofString "more" ≠ Str.ofString "never" := by decide +kernel
theorem chk_f {s : Str} {r : List PyData} {e : PyData} (h1 : nevB r e = false) (h2 : mreB r e = false) (h3 : limB r e = false) : chkB s r e = false := by
  unfold chkB
  split
  · exact h1
  · split
    · exact h2
    · split
      · exact h3
      · rfl
theorem chk_e {s : Str} {r : List PyData} {e : PyData} (h : emptyG e = false) : chkB s r e = false := by
  refine chk_f ?_ ?_ ?_
  · match r with
    | [_, _] => show (emptyG e && _) = false; rw [h]; rfl
    | [] => rfl
    | [_] => rfl
    | _ :: _ :: _ :: _ => rfl
  · match r with
    | [_, _, _] => show (emptyG e && _) = false; rw [h]; rfl
    | [] => rfl
    | [_] => rfl
    | [_, _] => rfl
    | _ :: _ :: _ :: _ :: _ => rfl
  · match r with
    | [_, _, _] => show (emptyG e && _) = false; rw [h]; rfl
    | [] => rfl
    | [_] => rfl
    | [_, _] => rfl
    | _ :: _ :: _ :: _ :: _ => rfl
theorem chk_r {s : Str} {x : PyData} {r : List PyData} {e : PyData} (h : rowG x = false) : chkB s (x :: r) e = false := by
  refine chk_f ?_ ?_ ?_
  · match r with
    | [_] => show (emptyG e && (rowG x && _)) = false; rw [h]; simp
    | [] => rfl
    | _ :: _ :: _ => rfl
  · match r with
    | [_, _] => show (emptyG e && (rowG x && _)) = false; rw [h]; simp
    | [] => rfl
    | [_] => rfl
    | _ :: _ :: _ :: _ => rfl
  · match r with
    | [_, _] => show (emptyG e && (rowG x && _)) = false; rw [h]; simp
    | [] => rfl
    | [_] => rfl
    | _ :: _ :: _ :: _ => rfl
theorem parts_sm31 {a b c : Int} (h : Good a b c) (ha : Sm 31 a) (hb : Sm 31 b) (hc : Sm 31 c) : Sm 80 (parts a b c).1 ∧ Sm 80 (parts a b c).2.1 ∧ Sm 80 (parts a b c).2.2 := by
  unfold parts
  rcases h with ⟨rfl, h2, h3⟩ | h
  · rw [if_pos rfl]
    have g0 : 0 < gc c b := gc_pos (.inr (by omega))
    exact ⟨show Sm 80 0 by unfold Sm; decide, (hb.div g0).mono (by decide), (hc.div g0).mono (by decide)⟩
  · rw [if_neg (by omega)]
    have k := inside_pos (b := b) h
    have hd : Sm 80 (b * b + 4 * a * c) := by
      have h4 : Sm 3 4 := by unfold Sm; decide
      have e1 : Sm (31 + 31) (b * b) := hb.mul hb
      have e2 : Sm (3 + 31 + 31) (4 * a * c) := (h4.mul ha).mul hc
      exact (Sm.add (n := 79) (e1.mono (by decide)) (e2.mono (by decide)))
    have hr : Sm 40 (rt (b * b + 4 * a * c)) := rt_sm (n := 40) k.2 hd
    have h2 : Sm 2 2 := by unfold Sm; decide
    split
    · have g0 : 0 < gc (rt (b * b + 4 * a * c) - b) (2 * a) := gc_pos (.inr (by omega))
      refine ⟨show Sm 80 0 by unfold Sm; decide, ?_, ?_⟩
      · exact ((h2.mul ha).div g0).mono (by decide)
      · exact ((hr.sub (hb.mono (by decide))).div g0).mono (by decide)
    · have g0 : 0 < gc (gc a b) c := gc_pos (.inr (by omega))
      exact ⟨(ha.div g0).mono (by decide), (hb.div g0).mono (by decide), (hc.div g0).mono (by decide)⟩
def limI (r : List Pc) : List Int := if (matR r).c = 0 then [1, 0] else [(eqL r).1, (eqL r).2.1, (eqL r).2.2]
theorem lim_ints (r : List Pc) : limD r = .tuple ((limI r).map .int) := by
  unfold limD limI
  split <;> rfl
theorem lim_small {r : List Pc} (hok : RowOk r) (l8 : r.length ≤ 8) : ∀ i ∈ limI r, Sm 80 i := by
  unfold limI
  split
  · intro i hi
    simp only [List.mem_cons, List.not_mem_nil, or_false] at hi
    rcases hi with rfl | rfl <;> (unfold Sm; decide)
  · rename_i cn
    obtain ⟨za, zb, zc, zd⟩ := matR_sm30 hok l8
    obtain ⟨a0, _, b0, _, c0, _, d0, _⟩ := matR_le hok l8
    have : Sm 80 (eqL r).1 ∧ Sm 80 (eqL r).2.1 ∧ Sm 80 (eqL r).2.2 := by
      unfold eqL
      split
      · exact ⟨by unfold Sm; decide, by unfold Sm; decide, by unfold Sm; decide⟩
      · exact parts_sm31 (.inr ⟨by omega, by omega⟩) (zc.mono (by decide)) (zd.sub za) (zb.mono (by decide))
    intro i hi
    simp only [List.mem_cons, List.not_mem_nil, or_false] at hi
    rcases hi with rfl | rfl | rfl
    · exact this.1
    · exact this.2.1
    · exact this.2.2
theorem eqv_ints : ∀ {ds : List PyData} {js : List Int}, (∀ d ∈ ds, isIntD d = true) → PyData.eqvAll ds (js.map .int) = true → ∀ d ∈ ds, ∃ j ∈ js, d = .int j
  | [], _, _, _ => fun d h => by cases h
  | d :: ds, [], _, h => by simp [PyData.eqvAll] at h
  | d :: ds, j :: js, hi, h => by
    obtain ⟨i, rfl⟩ := int_of (hi d List.mem_cons_self)
    have h : (PyData.eqv (.int i) (.int j) && PyData.eqvAll ds (js.map .int)) = true := h
    rw [Bool.and_eq_true] at h
    have ij : i = j := by
      have := h.1
      simpa [PyData.eqv] using this
    intro x hx
    rcases List.mem_cons.mp hx with hx | hx
    · exact ⟨j, List.mem_cons_self, by rw [hx, ij]⟩
    · obtain ⟨k, hk, e⟩ := eqv_ints (fun y hy => hi y (List.mem_cons_of_mem _ hy)) h.2 x hx
      exact ⟨k, List.mem_cons_of_mem _ hk, e⟩
theorem lim_told {r : List Pc} (hok : RowOk r) (l8 : r.length ≤ 8) (xs : List PyData) : (xs.all (fun d => withinD d (-(10 ^ Int.toNat 40)) (10 ^ Int.toNat 40)) && PyData.eqv (.tuple xs) (limD r)) = (intsG (.tuple xs) && PyData.eqv (.tuple xs) (limD r)) := by
  cases e : PyData.eqv (.tuple xs) (limD r) with
  | false => simp
  | true =>
    rw [Bool.and_true, Bool.and_true, Bool.eq_iff_iff]
    show _ ↔ xs.all isIntD = true
    rw [List.all_eq_true, List.all_eq_true]
    constructor
    · intro h x hx
      obtain ⟨i, ei, _⟩ := within_of (h x hx)
      rw [ei]
      rfl
    · intro h x hx
      rw [lim_ints] at e
      have e : PyData.eqvAll xs ((limI r).map .int) = true := e
      obtain ⟨j, hj, rfl⟩ := eqv_ints h e x hx
      have z := lim_small hok l8 j hj
      have p : (2 : Nat) ^ 80 < 10 ^ 40 := by decide
      unfold Sm at z
      have c : ((10 : Int) ^ Int.toNat 40) = ((10 ^ 40 : Nat) : Int) := by decide
      show (decide (-(10 ^ Int.toNat 40) ≤ j) && decide (j ≤ 10 ^ Int.toNat 40)) = true
      rw [c, Bool.and_eq_true, decide_eq_true_eq, decide_eq_true_eq]
      omega
end RL

set_option maxHeartbeats 4000000
namespace RL
open PySem L2 PySem.Spec PyProof.Rows
def oP (x y : Int × Int) : Int := sg (x.1 * y.2 - y.1 * x.2)
theorem oP_sc {g h : Int} (g0 : 0 < g) (h0 : 0 < h) (x y : Int × Int) : oP (sc g x) (sc h y) = oP x y := by
  unfold oP sc
  have e : (g * x.1) * (h * y.2) - (h * y.1) * (g * x.2) = (g * h) * (x.1 * y.2 - y.1 * x.2) := by grind
  dsimp only
  rw [e, sg_mul (Int.mul_pos g0 h0)]
theorem oP_app2 {x : Int × Int} (m n : Mx) (hx : Pos2 x) : oP (m.app (low x)) (n.app (low x)) = oP (m.app x) (n.app x) := by
  have := oP_sc (gc_pos2 hx) (gc_pos2 hx) (m.app (low x)) (n.app (low x))
  rw [← app_sc', ← app_sc', ← low_is hx] at this
  exact this.symm
def spSgn : Sp := fun vs H Q _ => ∃ (a b : Addr) (e f : Int × Int), vs = [.ref a, .ref b] ∧ PairAt H a e ∧ PairAt H b f ∧ Sm 4000 e.1 ∧ Sm 4000 e.2 ∧ Sm 4000 f.1 ∧ Sm 4000 f.2 ∧ Q (.int (oP e f)) H
theorem empty_of {e : PyData} (h : emptyG e = true) : e = .tuple [] := by
  cases e with
  | tuple es =>
    cases es with
    | nil => rfl
    | cons a b => cases h
  | _ => cases h
section
variable {P : Program} {w : World} {K : PySem.W.Frag} {mg : Str → Option Value} {base : Heap} {tG t1 t3 tC tK : Tok} {aO aW aCh : Addr}
abbrev s_law_sign : Stmt := top 75
theorem sc_law_sign : FnScope ["_law_one", "_law_two", "_law_gap"] ["_law_one", "_law_two"] (defScope s_law_sign) := ⟨rfl, rfl, rfl, by decide +kernel, rfl, by decide +kernel, by decide +kernel⟩

theorem ok_sgn {f : Addr} {fd : FuncData} (F : Fun K "_law_sign" "_law_sign" s_law_sign f fd) : FnOk P w K mg base CX0 1 f fd ["_law_one", "_law_two"] spSgn := by
  refine F.ok sc_law_sign (fun vs H Q E h => ?_) (fun cdv A outer s H vs Q E hr h => ?_)
  · obtain ⟨a, b, e, f, rfl, _⟩ := h
    rfl
  · obtain ⟨a, b, e, f, rfl, ha, hb, e1, e2, f1, f2, k⟩ := h
    refine ⟨_, (pss_cons (ps_set (i := 2) sc_law_sign.nd rfl (.inl rfl) (pe_op op_sub (pe_op op_mulX (pe_ix ix_tup (pv 0) pe_int (fun _ _ => rfl)) (pe_ix ix_tup (pv 1) pe_int (fun _ _ => rfl))) (pe_op op_mulX (pe_ix ix_tup (pv 1) pe_int (fun _ _ => rfl)) (pe_ix ix_tup (pv 0) pe_int (fun _ _ => rfl)))))
      (pss_one (ps_ret (pe_ifExp (pt_cmpR op_gt (pv 2) pe_int (nomark _)) pe_int (pe_ifExp (pt_cmpR op_lt (pv 2) pe_int (nomark _)) (pe_un un_neg pe_int) pe_int))))), ?_⟩
    refine ⟨_, rfl, a, _, _, _, rfl, rfl, SqT.of ha, atI_nat (j := 0) rfl, _, rfl, b, _, _, _, rfl, rfl, SqT.of hb, atI_nat (j := 1) rfl, _, _, rfl, rfl, mx e1 f2, ?_⟩
    refine ⟨_, rfl, b, _, _, _, rfl, rfl, SqT.of hb, atI_nat (j := 0) rfl, _, rfl, a, _, _, _, rfl, rfl, SqT.of ha, atI_nat (j := 1) rfl, _, _, rfl, rfl, mx f1 e2, _, _, rfl, rfl, ?_⟩
    unfold oP sg at k
    refine ⟨_, rfl, _, _, rfl, rfl, _, rfl, ite2 (fun g => ?_) (fun g => ?_)⟩
    · rw [if_pos (show 0 < e.1 * f.2 - f.1 * e.2 from of_decide_eq_true g)] at k
      exact k
    · rw [if_neg (show ¬ 0 < e.1 * f.2 - f.1 * e.2 from fun z => g (decide_eq_true z))] at k
      refine ⟨_, rfl, _, _, rfl, rfl, _, rfl, ite2 (fun g2 => ?_) (fun g2 => ?_)⟩
      · rw [if_pos (show e.1 * f.2 - f.1 * e.2 < 0 from of_decide_eq_true g2)] at k
        exact ⟨1, rfl, k⟩
      · rw [if_neg (show ¬ e.1 * f.2 - f.1 * e.2 < 0 from fun z => g2 (decide_eq_true z))] at k
        exact k
abbrev s_law_due : Stmt := top 93
theorem sc_law_due : FnScope ["_law_said", "_law_paper", "_law_part"] ["_law_said", "_law_paper"] (defScope s_law_due) := ⟨rfl, rfl, rfl, by decide +kernel, rfl, by decide +kernel, by decide +kernel⟩

theorem ok_due {f : Addr} {fd : FuncData} (F : Fun K "_law_due" "_law_due" s_law_due f fd) (T : TxtA K mg w tG t1 t3 tC tK aO aW aCh) (D_law_is_row : Df P w K mg base 2 "_law_is_row" ["_law_thing"] spIsRow) (D_law_is_load : Df P w K mg base 1 "_law_is_load" ["_law_thing"] spIsLoad) (D_law_is_whole : Df P w K mg base 1 "_law_is_whole" ["_law_thing", "_law_first", "_law_last"] spWhole) (D_law_is_number : Df P w K mg base 1 "_law_is_number" ["_law_thing"] spIsNum) (D_law_limit : Df P w K mg base 2 "_law_limit" ["_law_row"] spLLim) (D_law_never : Df P w K mg base 2 "_law_never" ["_law_row", "_law_mate"] spLNev) (D_law_frac : Df P w K mg base 2 "_law_frac" ["_law_thing"] spFrac) (D_law_sign : Df P w K mg base 1 "_law_sign" ["_law_one", "_law_two"] spSgn) (D_law_led : Df P w K mg base 1 "_law_led" ["_law_row", "_law_pair"] spLed) : FnOk P w K mg base CX0 3 f fd ["_law_said", "_law_paper"] spDue := by
  refine F.ok sc_law_due (fun vs H Q E h => ?_) (fun cdv A outer s H vs Q E hr h => ?_)
  · obtain ⟨v, u, d, e, rfl, _⟩ := h
    rfl
  · obtain ⟨v, u, d, e, rfl, hd, hc, hu, hpe, hnn, k⟩ := h
    refine ⟨_, (pss_cons (ps_if (PW.pt (pw_or (pt_not (pt_val (pe_callB call_isi (by rfl) T.isinstance (by decide +kernel) (pa_cons (pv 0) (pa_cons (pe_bltn (v := .ty "tuple") (by rfl) T.tuple_ (by decide +kernel) rfl) pa_nil))))) (pw_or (pt_cmpR op_eq (pe_callB call_len_seq (by rfl) T.len (by decide +kernel) (pa_cons (pv 0) pa_nil)) pe_int (nomark _)) (pw_or (pt_not (pt_val (pe_callB call_isi (by rfl) T.isinstance (by decide +kernel) (pa_cons (pv 1) (pa_cons (pe_bltn (v := .ty "tuple") (by rfl) T.tuple_ (by decide +kernel) rfl) pa_nil))))) (pw_or1 (pt_cmpR op_gt (pe_callB call_len_seq (by rfl) T.len (by decide +kernel) (pa_cons (pv 1) pa_nil)) pe_int (nomark _))))))) (pss_one (ps_ret pe_bl)) pss_nil)
      (pss_cons (ps_if (PW.pt (pw_or (pt_not (pt_val (pe_callB call_isi (by rfl) T.isinstance (by decide +kernel) (pa_cons (pe_ix ix_tup (pv 0) pe_int (fun _ _ => rfl)) (pa_cons (pe_bltn (v := .ty "str") (by rfl) T.str_ (by decide +kernel) rfl) pa_nil))))) (pw_or (pt_cmpR op_lt (pe_callB call_len_seq (by rfl) T.len (by decide +kernel) (pa_cons (pv 0) pa_nil)) pe_int (nomark _)) (pw_or1 (pt_not (pt_val (pe_df D_law_is_row (hr.mono (by decide)) (by rfl) (pa_cons (pe_ix ix_tup (pv 0) pe_int (fun _ _ => rfl)) pa_nil)))))))) (pss_one (ps_ret pe_bl)) pss_nil)
      (pss_cons (ps_if (pt_cmpR op_eq (pe_ix ix_tup (pv 0) pe_int (fun _ _ => rfl)) pe_str (nomark _)) (pss_cons (ps_if (PW.pt (pw_or (pt_cmpR op_ne (pe_callB call_len_seq (by rfl) T.len (by decide +kernel) (pa_cons (pv 0) pa_nil)) pe_int (nomark _)) (pw_or (pt_not (pt_val (pe_df D_law_is_load (hr.mono (by decide)) (by rfl) (pa_cons (pe_ix ix_tup (pv 0) pe_int (fun _ _ => rfl)) pa_nil)))) (pw_or1 (pt_not (pt_val (pe_callB call_isi (by rfl) T.isinstance (by decide +kernel) (pa_cons (pe_ix ix_tup (pv 0) pe_int (fun _ _ => rfl)) (pa_cons (pe_bltn (v := .ty "tuple") (by rfl) T.tuple_ (by decide +kernel) rfl) pa_nil))))))))) (pss_one (ps_ret pe_bl)) pss_nil)
      (pss_one (ps_ret (pe_and (pe_callB (cr_all rfl) (by rfl) T.all (by decide +kernel) (pa_cons (pe_lc (own := [("_law_part", 2)]) (g := gName 2) (tt := tYes) rfl sc_law_due.nd (pi_tup (pe_ix ix_tup (pv 0) pe_int (fun _ _ => rfl))) (blkOk_by (N := ["_law_said", "_law_paper", "_law_part"]) (sc := defScope s_law_due) (by decide +kernel)) (fun _ _ _ _ _ => pg_name (i := 2) sc_law_due.nd rfl (Or.inl rfl)) (fun _ _ _ _ _ => pts_nil) (fun _ _ _ _ _ => (pe_df D_law_is_whole (hr.mono (by decide)) (by rfl) (pa_cons (pv 2) (pa_cons (pe_un un_neg (pe_op op_pow pe_int pe_int)) (pa_cons (pe_op op_pow pe_int pe_int) pa_nil)))))) pa_nil)) (pe_one (pe_cmpR (op_eqD hr.units) (pe_ix ix_tup (pv 0) pe_int (fun _ _ => rfl)) (pe_df D_law_limit (hr.mono (by decide)) (by rfl) (pa_cons (pe_ix ix_tup (pv 0) pe_int (fun _ _ => rfl)) pa_nil)) (nomark _))))))) pss_nil)
      (pss_cons (ps_if (pt_not (pt_val (pe_df D_law_is_row (hr.mono (by decide)) (by rfl) (pa_cons (pe_ix ix_tup (pv 0) pe_int (fun _ _ => rfl)) pa_nil)))) (pss_one (ps_ret pe_bl)) pss_nil)
      (pss_cons (ps_if (pt_cmpR op_eq (pe_ix ix_tup (pv 0) pe_int (fun _ _ => rfl)) pe_str (nomark _)) (pss_one (ps_ret (pe_and (pe_cmpR op_eq (pe_callB call_len_seq (by rfl) T.len (by decide +kernel) (pa_cons (pv 0) pa_nil)) pe_int (nomark _)) (pe_one (pe_df D_law_never (hr.mono (by decide)) (by rfl) (pa_cons (pe_ix ix_tup (pv 0) pe_int (fun _ _ => rfl)) (pa_cons (pe_ix ix_tup (pv 0) pe_int (fun _ _ => rfl)) pa_nil))))))) pss_nil)
      (pss_cons (ps_if (PW.pt (pw_or (pt_cmpR op_ne (pe_ix ix_tup (pv 0) pe_int (fun _ _ => rfl)) pe_str (nomark _)) (pw_or (pt_cmpR op_ne (pe_callB call_len_seq (by rfl) T.len (by decide +kernel) (pa_cons (pv 0) pa_nil)) pe_int (nomark _)) (pw_or1 (pt_not (pt_val (pe_df D_law_is_number (hr.mono (by decide)) (by rfl) (pa_cons (pe_ix ix_tup (pv 0) pe_int (fun _ _ => rfl)) pa_nil)))))))) (pss_one (ps_ret pe_bl)) pss_nil)
      (pss_cons (ps_set (i := 2) sc_law_due.nd rfl (.inl rfl) (pe_df D_law_frac (hr.mono (by decide)) (by rfl) (pa_cons (pe_ix ix_tup (pv 0) pe_int (fun _ _ => rfl)) pa_nil)))
      (pss_one (ps_ret (pe_cmpR op_gt (pe_df D_law_sign (hr.mono (by decide)) (by rfl) (pa_cons (pe_df D_law_led (hr.mono (by decide)) (by rfl) (pa_cons (pe_ix ix_tup (pv 0) pe_int (fun _ _ => rfl)) (pa_cons (pv 2) pa_nil))) (pa_cons (pe_df D_law_led (hr.mono (by decide)) (by rfl) (pa_cons (pe_ix ix_tup (pv 0) pe_int (fun _ _ => rfl)) (pa_cons (pv 2) pa_nil))) pa_nil))) pe_int (nomark _))))))))))), ?_⟩
    refine ⟨_, rfl, _, _, _, _, isTupD d, rfl, .ty _, ty_dr hd, kit_tup d, _, rfl, ?_⟩
    cases h1 : isTupD d with
    | false =>
      have q : accB d e = false := by cases d <;> first | rfl | (cases h1; done)
      rw [q] at k
      exact iteT (k _ (Same.refl _))
    | true =>
    obtain ⟨ds, rfl⟩ : ∃ ds, d = .tuple ds := by cases d <;> first | exact ⟨_, rfl⟩ | (cases h1; done)
    obtain ⟨t, ys, rfl, ht, hy⟩ := hd.tuple
    have ly := hy.1
    refine iteF ⟨_, rfl, t, _, rfl, .inr (SqT.of ht), rfl, _, rfl, ite2 (fun e1 => ?_) (fun e1 => ?_)⟩
    · have : ds = [] := by
        have := V.int.inj (of_decide_eq_true e1)
        exact List.eq_nil_of_length_eq_zero (by omega)
      subst this
      exact k _ (Same.refl _)
    have l1 : ds ≠ [] := fun z => e1 (decide_eq_true (by rw [ly, z]; rfl))
    obtain ⟨k0, r, rfl⟩ : ∃ k r, ds = k :: r := by
      cases ds with
      | nil => exact absurd rfl l1
      | cons a b => exact ⟨a, b, rfl⟩
    obtain ⟨v0, yr, rfl⟩ : ∃ a b, ys = a :: b := by
      cases ys with
      | nil => exact absurd ly (by simp)
      | cons a b => exact ⟨a, b, rfl⟩
    obtain ⟨h0, hyr⟩ := hy.inv
    have lyr : yr.length = r.length := hyr.1
    have k : ∀ H', Same H H' → Q (.bl (accK k0 r e)) H' := k
    refine ⟨_, rfl, _, _, _, _, isTupD e, rfl, .ty _, ty_dr hu, kit_tup e, _, rfl, ?_⟩
    have nope : emptyG e = false → ∀ H', Same H H' → Q (.bl false) H' := fun z H' s => by
      have := k H' s
      have q : accK k0 r e = false := by
        cases k0 <;> first | exact chk_e z | rfl
      rw [q] at this
      exact this
    cases h2 : isTupD e with
    | false => exact iteT (nope (by cases e <;> first | rfl | (cases h2; done)) _ (Same.refl _))
    | true =>
    obtain ⟨es, rfl⟩ : ∃ ds, e = .tuple ds := by cases e <;> first | exact ⟨_, rfl⟩ | (cases h2; done)
    obtain ⟨tu, us, rfl, htu, hus⟩ := hu.tuple
    refine iteF ⟨_, rfl, tu, _, rfl, .inr (SqT.of htu), _, _, rfl, rfl, _, rfl, ite2 (fun e2 => ?_) (fun e2 => ?_)⟩
    · have : 0 < (us.length : Int) := of_decide_eq_true e2
      refine nope ?_ _ (Same.refl _)
      cases es with
      | nil =>
        have := hus.1
        rw [List.length_nil] at this
        omega
      | cons a b => rfl
    have : es = [] := by
      have z : ¬ 0 < (us.length : Int) := fun z => e2 (decide_eq_true z)
      have := hus.1
      exact List.eq_nil_of_length_eq_zero (by omega)
    subst this
    have em : emptyG (.tuple []) = true := rfl
    refine ⟨_, rfl, t, _, _, _, rfl, rfl, SqT.of ht, atI_nat (j := 0) rfl, _, _, _, _, isStrD k0, rfl, .ty _, ty_dr h0, kit_str k0, _, rfl, ?_⟩
    cases h3 : isStrD k0 with
    | false =>
      have q : accK k0 r (.tuple []) = false := by cases k0 <;> first | rfl | (cases h3; done)
      rw [q] at k
      exact iteT (k _ (Same.refl _))
    | true =>
    obtain ⟨s, rfl⟩ : ∃ s, k0 = .str s := by cases k0 <;> first | exact ⟨_, rfl⟩ | (cases h3; done)
    cases h0.toStr
    have k : ∀ H', Same H H' → Q (.bl (chkB s r (.tuple []))) H' := k
    obtain ⟨_, hall⟩ := hc s r rfl
    have no : ∀ {H'}, Same H H' → chkB s r (.tuple []) = false → Q (.bl false) H' := fun {H'} s' z => by
      rw [z] at k
      exact k _ s'
    refine iteF ⟨_, rfl, t, _, rfl, .inr (SqT.of ht), _, _, rfl, rfl, _, rfl, ite2 (fun e3 => ?_) (fun e3 => ?_)⟩
    · have z : ((yr.length + 1 : Nat) : Int) < 3 := of_decide_eq_true e3
      exact no (Same.refl _) (chk_f (nevB_no (by omega)) (mreB_no (by omega)) (limB_no (by omega)))
    have l2 : 2 ≤ r.length := by
      have z : ¬ ((yr.length + 1 : Nat) : Int) < 3 := fun z => e3 (decide_eq_true z)
      omega
    obtain ⟨x1, x2, r3, rfl⟩ : ∃ a b c, r = a :: b :: c := by
      match r, l2 with
      | a :: b :: c, _ => exact ⟨a, b, c, rfl⟩
    obtain ⟨v1, v2, y3, rfl⟩ : ∃ a b c, yr = a :: b :: c := by
      match yr, lyr with
      | a :: b :: c, _ => exact ⟨a, b, c, rfl⟩
    obtain ⟨hx1, hy1⟩ := hyr.inv
    obtain ⟨hx2, hy2⟩ := hy1.inv
    have ly3 : y3.length = r3.length := hy2.1
    have n1 := hall x1 (by simp)
    have n2 := hall x2 (by simp)
    refine ⟨_, rfl, t, _, _, _, rfl, rfl, SqT.of ht, atI_nat (j := 1) rfl, v1, x1, rfl, hx1, n1.1, fun H1 s1 => ⟨_, rfl, ?_⟩⟩
    cases a1 : rowG x1 with
    | false => exact iteT (no s1 (chk_r a1))
    | true =>
    have hrow := row_at hx1 a1
    obtain ⟨_, _, _, _, _, hok, _, l8⟩ := id hrow
    refine iteF ⟨_, rfl, t, _, _, _, rfl, rfl, SqT.of (s1 _ _ ht), atI_nat (j := 0) rfl, rfl, _, rfl, ite2 (fun g1 => ?_) (fun g1 => ?_)⟩
    · have es : s = Str.ofString "limit" := V.str.inj (of_decide_eq_true g1)
      have kc : ∀ r, chkB s r (.tuple []) = limB r (.tuple []) := fun r => by
        unfold chkB
        rw [es, if_neg key_ne.1, if_neg key_ne.2.1, if_pos rfl]
      rw [kc] at k
      have no : ∀ {H'}, Same H H' → limB (x1 :: x2 :: r3) (.tuple []) = false → Q (.bl false) H' := fun {H'} s' z => by
        rw [z] at k
        exact k _ s'
      refine ⟨_, rfl, t, _, rfl, .inr (SqT.of (s1 _ _ ht)), rfl, _, rfl, ite2 (fun e4 => ?_) (fun e4 => ?_)⟩
      · refine no s1 (limB_no fun z => ?_)
        have z : r3.length + 1 + 1 = 3 := z
        have : y3.length = 1 := by omega
        exact absurd e4 (by simp [this])
      have l3 : r3.length = 1 := by
        by_cases z : r3.length = 1
        · exact z
        · refine absurd ?_ e4
          simp
          omega
      obtain ⟨x3, rfl⟩ : ∃ a, r3 = [a] := by
        match r3, l3 with
        | [a], _ => exact ⟨a, rfl⟩
      obtain ⟨v3, rfl⟩ : ∃ a, y3 = [a] := by
        match y3, ly3 with
        | [a], _ => exact ⟨a, rfl⟩
      obtain ⟨hx3, _⟩ := hy2.inv
      have n3 := hall x3 (by simp)
      have q : limB [x1, x2, x3] (.tuple []) = (emptyG (.tuple []) && (rowG x1 && (resG x2 && (intsG x3 && PyData.eqv x3 (limD (rowOf x1)))))) := rfl
      rw [q] at no k
      rw [em, a1] at no k
      simp only [Bool.true_and] at no k
      refine ⟨_, rfl, t, _, _, _, rfl, rfl, SqT.of (s1 _ _ ht), atI_nat (j := 2) rfl, v2, x2, rfl, hx2.mono s1, n2.1, fun H2 s2 => ⟨_, rfl, ?_⟩⟩
      have s12 := s1.trans s2
      cases a2 : resG x2 with
      | false => exact iteT (no s12 (by rw [a2]; rfl))
      | true =>
      rw [a2] at no k
      simp only [Bool.true_and] at no k
      refine iteF ⟨_, rfl, t, _, _, _, rfl, rfl, SqT.of (s12 _ _ ht), atI_nat (j := 3) rfl, _, _, _, _, isTupD x3, rfl, .ty _, ty_dr (hx3.mono s12), kit_tup x3, _, rfl, ?_⟩
      cases h4 : isTupD x3 with
      | false =>
        have e : intsG x3 = false := by cases x3 <;> first | rfl | (cases h4; done)
        exact iteT (no s12 (by rw [e]; rfl))
      | true =>
      obtain ⟨xs, rfl⟩ : ∃ ds, x3 = .tuple ds := by cases x3 <;> first | exact ⟨_, rfl⟩ | (cases h4; done)
      obtain ⟨tx, us3, rfl, htx, hus3⟩ := hx3.tuple
      have lus := hus3.1
      have l100 : xs.length ≤ 100 := of_decide_eq_true n3.2.2
      have hk := lim_told hok l8 xs
      rw [← hk] at k
      refine iteF ⟨_, rfl, t, _, _, _, rfl, rfl, SqT.of (s12 _ _ ht), atI_nat (j := 3) rfl, tx, rfl, ⟨_, SqT.of (s12 _ _ htx)⟩, fun D hD => ?_⟩
      refine lc_tup (K := K) (a := tx) (xs := us3) (fun i H' => Same H2 H' ∧ H' D = some (.lst (((xs.take i).map (fun d => withinD d (-(10 ^ Int.toNat 40)) (10 ^ Int.toNat 40))).map V.bl))) ⟨same_upd hD, upd_same⟩ (fun i H' _ h => SqT.of ((s12.trans h.1) _ _ htx)) ?_ ?_
      · rintro i y H' hyi ⟨sD, hDi⟩
        obtain ⟨d, hd', hdp⟩ := hus3.atv hyi
        have il : i < xs.length := (List.getElem?_eq_some_iff.mp hd').1
        refine ⟨rfl, ?_⟩
        unfold tYes
        refine iteT ?_
        refine ⟨_, rfl, _, _, rfl, rfl, ⟨by decide, by decide, by decide⟩, _, rfl, _, _, rfl, rfl, ⟨by decide, by decide, by decide⟩, y, d, _, _, rfl, hdp.mono (s12.trans sD), _, hDi, ?_, ?_, ?_⟩
        · rw [List.length_map, List.length_map, List.length_take]
          exact small1000 (by omega)
        · intro q o e
          rw [upd_ne (ne_of_none e hD)]
          exact sD _ _ e
        · rw [upd_same, take_snoc hd', List.map_append, List.map_append]
          rfl
      rintro H3 ⟨sD, hDn⟩
      refine ⟨D, _, rfl, SqL.of hDn, ?_⟩
      rw [lus, List.take_length, List.all_map]
      have s13 := s12.trans sD
      refine ⟨_, rfl, ?_⟩
      cases g5 : xs.all (fun d => withinD d (-(10 ^ Int.toNat 40)) (10 ^ Int.toNat 40)) with
      | false =>
        have g6 : xs.all (id ∘ fun d => withinD d (-(10 ^ Int.toNat 40)) (10 ^ Int.toNat 40)) = false := g5
        rw [g6]
        rw [g5, Bool.false_and] at k
        exact k _ s13
      | true =>
        have g6 : xs.all (id ∘ fun d => withinD d (-(10 ^ Int.toNat 40)) (10 ^ Int.toNat 40)) = true := g5
        rw [g6]
        rw [g5, Bool.true_and] at k
        have hints : ∀ d ∈ xs, isIntD d = true := fun d hd => by
          obtain ⟨i, ei, _⟩ := within_of (List.all_eq_true.mp g5 d hd)
          rw [ei]
          rfl
        refine iteT ⟨_, rfl, t, _, _, _, rfl, rfl, SqT.of (s13 _ _ ht), atI_nat (j := 3) rfl, _, rfl, t, _, _, _, rfl, rfl, SqT.of (s13 _ _ ht), atI_nat (j := 1) rfl, v1, rowOf x1, rfl, hrow.same s13, fun H4 lv s4 hlv => ?_⟩
        have hlv := Dn.dr hlv
        rw [lim_ints] at hlv k
        have li : ∀ d ∈ (limI (rowOf x1)).map PyData.int, isIntD d = true := fun d hd => by
          obtain ⟨i, _, rfl⟩ := List.mem_map.mp hd
          rfl
        exact ⟨_, _, dp_ints (hx3.mono (s13.trans s4)) hints, dp_ints hlv li, sh_ints hints, sh_ints li, k _ (s13.trans s4)⟩
    · have g1 : ¬ s = Str.ofString "limit" := fun z => g1 (decide_eq_true (by rw [z]))
      refine ⟨_, rfl, t, _, _, _, rfl, rfl, SqT.of (s1 _ _ ht), atI_nat (j := 2) rfl, v2, x2, rfl, hx2.mono s1, n2.1, fun H2 s2 => ⟨_, rfl, ?_⟩⟩
      have s12 := s1.trans s2
      cases a2 : rowG x2 with
      | false =>
        refine iteT (no s12 ?_)
        unfold chkB
        split
        · match r3 with
          | [] => show (emptyG (.tuple []) && (rowG x1 && (rowG x2 && nmB x1 x2))) = false; rw [a2]; simp
          | _ :: _ => rfl
        · split
          · match r3 with
            | [x3] => show (emptyG (.tuple []) && (rowG x1 && (rowG x2 && (numG x3 && mreE x1 x2 x3)))) = false; rw [a2]; simp
            | [] => rfl
            | _ :: _ :: _ => rfl
          · first | rfl | rw [if_neg g1]
      | true =>
      have hmrow := row_at hx2 a2
      obtain ⟨_, _, _, _, _, hok2, _, l82⟩ := id hmrow
      refine iteF ⟨_, rfl, t, _, _, _, rfl, rfl, SqT.of (s12 _ _ ht), atI_nat (j := 0) rfl, rfl, _, rfl, ite2 (fun g2 => ?_) (fun g2 => ?_)⟩
      · have es : s = Str.ofString "never" := V.str.inj (of_decide_eq_true g2)
        have kc : ∀ r, chkB s r (.tuple []) = nevB r (.tuple []) := fun r => if_pos es
        rw [kc] at k
        refine ⟨_, rfl, t, _, rfl, .inr (SqT.of (s12 _ _ ht)), rfl, _, rfl, ite2 (fun e4 => ?_) (fun e4 => ?_)⟩
        · have l3 : r3.length = 0 := by
            have e4 := V.int.inj (of_decide_eq_true e4)
            simp at e4
            omega
          have := List.eq_nil_of_length_eq_zero l3
          subst this
          have q : nevB [x1, x2] (.tuple []) = (emptyG (.tuple []) && (rowG x1 && (rowG x2 && nmB x1 x2))) := rfl
          rw [q, em, a1, a2] at k
          refine ⟨_, rfl, t, _, _, _, rfl, rfl, SqT.of (s12 _ _ ht), atI_nat (j := 1) rfl, _, rfl, t, _, _, _, rfl, rfl, SqT.of (s12 _ _ ht), atI_nat (j := 2) rfl, v1, v2, rowOf x1, rowOf x2, rfl, hrow.same s12, hmrow.same s12, fun H3 s3 => k _ (s12.trans s3)⟩
        · have z : nevB (x1 :: x2 :: r3) (.tuple []) = false := nevB_no fun z => by
            have z : r3.length + 1 + 1 = 2 := z
            have : y3.length = 0 := by omega
            exact e4 (by simp [this])
          rw [z] at k
          have e4 := Bool.eq_false_iff.mpr e4
          first | exact k _ s12 | (rw [e4]; exact k _ s12)
      · have g2 : ¬ s = Str.ofString "never" := fun z => g2 (decide_eq_true (by rw [z]))
        refine ⟨_, rfl, t, _, _, _, rfl, rfl, SqT.of (s12 _ _ ht), atI_nat (j := 0) rfl, rfl, _, rfl, ite2 (fun g3 => ?_) (fun g3 => ?_)⟩
        · have g3 : ¬ s = Str.ofString "more" := fun z => by
            rw [z] at g3
            exact absurd g3 (by decide +kernel)
          refine no s12 ?_
          unfold chkB
          rw [if_neg g2, if_neg g3, if_neg g1]
        have es : s = Str.ofString "more" := by
          by_cases z : s = Str.ofString "more"
          · exact z
          · refine absurd ?_ g3
            simp [z]
        have kc : ∀ r, chkB s r (.tuple []) = mreB r (.tuple []) := fun r => by
          unfold chkB
          rw [es, if_neg key_ne.2.2, if_pos rfl]
        rw [kc] at k
        have no : ∀ {H'}, Same H H' → mreB (x1 :: x2 :: r3) (.tuple []) = false → Q (.bl false) H' := fun {H'} s' z => by
          rw [z] at k
          exact k _ s'
        refine ⟨_, rfl, t, _, rfl, .inr (SqT.of (s12 _ _ ht)), rfl, _, rfl, ite2 (fun e4 => ?_) (fun e4 => ?_)⟩
        · refine no s12 (mreB_no fun z => ?_)
          have z : r3.length + 1 + 1 = 3 := z
          have : y3.length = 1 := by omega
          exact absurd e4 (by simp [this])
        have l3 : r3.length = 1 := by
          by_cases z : r3.length = 1
          · exact z
          · refine absurd ?_ e4
            simp
            omega
        obtain ⟨x3, rfl⟩ : ∃ a, r3 = [a] := by
          match r3, l3 with
          | [a], _ => exact ⟨a, rfl⟩
        obtain ⟨v3, rfl⟩ : ∃ a, y3 = [a] := by
          match y3, ly3 with
          | [a], _ => exact ⟨a, rfl⟩
        obtain ⟨hx3, _⟩ := hy2.inv
        have n3 := hall x3 (by simp)
        have q : mreB [x1, x2, x3] (.tuple []) = (emptyG (.tuple []) && (rowG x1 && (rowG x2 && (numG x3 && mreE x1 x2 x3)))) := rfl
        rw [q] at no k
        rw [em, a1, a2] at no k
        simp only [Bool.true_and] at no k
        refine ⟨_, rfl, t, _, _, _, rfl, rfl, SqT.of (s12 _ _ ht), atI_nat (j := 3) rfl, v3, x3, rfl, hx3.mono s12, n3.1, fun H3 s3 => ⟨_, rfl, ?_⟩⟩
        have s13 := s12.trans s3
        cases a3 : numG x3 with
        | false => exact iteT (no s13 (by rw [a3]; rfl))
        | true =>
        rw [a3, Bool.true_and] at k
        have p3 := num_pos a3
        have sm3 := n3.2.1
        have lsm := low_sm p3 sm3.1 sm3.2
        refine iteF ⟨_, rfl, t, _, _, _, rfl, rfl, SqT.of (s13 _ _ ht), atI_nat (j := 3) rfl, v3, x3, rfl, hx3.mono s13, a3, ⟨sm3.1.mono (by decide), sm3.2.mono (by decide)⟩, fun H4 p s4 np hp => ?_⟩
        have s14 := s13.trans s4
        refine ⟨_, rfl, t, _, _, _, rfl, rfl, SqT.of (s14 _ _ ht), atI_nat (j := 1) rfl, _, rfl, v1, p, rowOf x1, _, rfl, hrow.same s14, hp, lsm.1.mono (by decide), lsm.2.mono (by decide), fun H5 pr s5 npr hpr => ?_⟩
        have s15 := s14.trans s5
        refine ⟨_, rfl, t, _, _, _, rfl, rfl, SqT.of (s15 _ _ ht), atI_nat (j := 2) rfl, _, rfl, v2, p, rowOf x2, _, rfl, hmrow.same s15, s5 _ _ hp, lsm.1.mono (by decide), lsm.2.mono (by decide), fun H6 pm s6 npm hpm => ?_⟩
        have z1 := actR_sm hok l8 lsm.1 lsm.2
        have z2 := actR_sm hok2 l82 lsm.1 lsm.2
        refine ⟨pr, pm, _, _, rfl, s6 _ _ hpr, hpm, z1.1.mono (by decide), z1.2.mono (by decide), z2.1.mono (by decide), z2.2.mono (by decide), ?_⟩
        have eq : oP (actR (rowOf x1) (low (prOf x3))) (actR (rowOf x2) (low (prOf x3))) = oP ((matR (rowOf x1)).app (prOf x3)) ((matR (rowOf x2)).app (prOf x3)) := by
          rw [← mat_app, ← mat_app]
          exact oP_app2 _ _ p3
        rw [eq]
        exact ⟨_, _, rfl, rfl, k _ (s15.trans s6)⟩
end
end RL

set_option maxHeartbeats 4000000
namespace RL
open PySem L2 PySem.Spec PyProof.Rows
def lnD : PyData → Nat
  | .tuple ds => ds.length
  | _ => 0
def spAnyRowL : Sp := fun vs H Q _ => ∃ (c : Addr) (n : Nat) (L : Int), vs = [.ref c, .int L] ∧ TapeAt c n H ∧ n + 17 ≤ 1000000 ∧ 1 ≤ L ∧ L ≤ 8 ∧ ∀ H' v d, But c H H' → TapeAt c (n + 17) H' → Dh c H' v d → rowG d = true → (lnD d : Int) ≤ L → Q v H'
/-- the known limit, if there is one -/
def EndV (v : V) : Prop := v = .non ∨ ∃ e : Int, v = .int e ∧ 0 ≤ e ∧ e ≤ 12
def spEven : Sp := fun vs H Q _ => ∃ (c : Addr) (n : Nat), vs = [.ref c] ∧ TapeAt c n H ∧ n + 2 ≤ 1000000 ∧
  ∀ H' p v d ev, But c H H' → TapeAt c (n + 2) H' → H' p = some (.tup [v, ev]) → Dh c H' v d → rowG d = true → lnD d ≤ 2 → EndV ev → Q (.ref p) H'
def spSomeRow : Sp := fun vs H Q _ => ∃ (c : Addr) (n : Nat) (L : Int), vs = [.ref c, .int L] ∧ TapeAt c n H ∧ n + 20 ≤ 1000000 ∧ 2 ≤ L ∧ L ≤ 8 ∧
  ∀ H' p v d ev, But c H H' → TapeAt c (n + 20) H' → H' p = some (.tup [v, ev]) → Dh c H' v d → rowG d = true → (lnD d : Int) ≤ L → EndV ev → Q (.ref p) H'
theorem row2_ok {x y : Int} {b : Bool} (hx : 1 ≤ x ∧ x ≤ 12) (hy : 1 ≤ y ∧ y ≤ 12) : rowG (.tuple [.tuple [.str (wd b), .int x], .tuple [.str (wd (!b)), .int y]]) = true :=
  rowD_ok (r := [(b, x), (!b, y)]) (fun p hp => by
    simp only [List.mem_cons, List.not_mem_nil, or_false] at hp
    rcases hp with rfl | rfl
    · exact hx
    · exact hy) (by show 1 ≤ 2; decide) (by show 2 ≤ 8; decide)
theorem Drs.rev {H : Hp} {vs : List V} {ds : List PyData} (h : Drs H vs ds) : Drs H vs.reverse ds.reverse := by
  refine ⟨by rw [List.length_reverse, List.length_reverse, h.1], fun i v d hv hd => ?_⟩
  have li : i < vs.length := by
    have := (List.getElem?_eq_some_iff.mp hv).1
    rwa [List.length_reverse] at this
  rw [List.getElem?_reverse li] at hv
  rw [List.getElem?_reverse (by rw [← h.1]; exact li), ← h.1] at hd
  exact h.2 _ v d hv hd
theorem row_mk {ds : List PyData} (l1 : 1 ≤ ds.length) (l8 : ds.length ≤ 8) (h : ∀ x ∈ ds, pieceG x = true) : rowG (.tuple ds) = true := by
  show (decide (1 ≤ ds.length) && (decide (ds.length ≤ 8) && ds.all pieceG)) = true
  rw [decide_eq_true l1, decide_eq_true l8]
  simp only [Bool.true_and, List.all_eq_true]
  exact h
def spNear : Sp := fun vs H Q _ => ∃ (c : Addr) (n : Nat) (v : V) (d : PyData), vs = [.ref c, v] ∧ TapeAt c n H ∧ n + 40 ≤ 1000000 ∧ Dh c H v d ∧ rowG d = true ∧ lnD d ≤ 5 ∧
  ∀ H' v' d', But c H H' → TapeAt c (n + 40) H' → Dh c H' v' d' → rowG d' = true → Q v' H'
def spCross : Sp := fun vs H Q _ => ∃ (c : Addr) (n : Nat), vs = [.ref c] ∧ TapeAt c n H ∧ n + 3 ≤ 1000000 ∧
  ∀ H' p v u d e, But c H H' → TapeAt c (n + 3) H' → H' p = some (.tup [v, u]) → Dh c H' v d → rowG d = true → Dh c H' u e → rowG e = true → Q (.ref p) H'
section
variable {P : Program} {w : World} {K : PySem.W.Frag} {mg : Str → Option Value} {base : Heap} {tG t1 t3 tC tK : Tok} {aO aW aCh : Addr}
theorem ok_anyrowL {f : Addr} {fd : FuncData} (F : Fun K "_law_anyrow" "_law_anyrow" s_law_anyrow f fd) (T : Txt K mg) (D_law_pick : Df P w K mg base 1 "_law_pick" ["_law_tape", "_law_many"] spDraw) : FnOk P w K mg base CX0 2 f fd ["_law_tape", "_law_longest"] spAnyRowL := by
  refine F.ok sc_law_anyrow (fun vs H Q E h => ?_) (fun cdv A outer s H vs Q E hr h => ?_)
  · obtain ⟨c, n, L, rfl, _⟩ := h
    rfl
  · obtain ⟨c, n, L, rfl, ht, hn, L1, L8, k⟩ := h
    refine ⟨_, (pss_cons (ps_set (i := 2) sc_law_anyrow.nd rfl (.inl rfl) (pe_op op_add pe_int (pe_df D_law_pick (hr.mono (by decide)) (by rfl) (pa_cons (pv 0) (pa_cons (pv 1) pa_nil)))))
      (pss_one (ps_ret (pe_callTy call_tuple_of (by rfl) T.tuple_ (by decide +kernel) (pa_cons (pe_lc (own := [("_law_turn", 3)]) (g := gName 3) (tt := tYes) rfl sc_law_anyrow.nd (pi_range1 rfl T.range (pa_cons (pv 2) pa_nil)) (blkOk_by (N := ["_law_tape", "_law_longest", "_law_many", "_law_turn"]) (sc := defScope s_law_anyrow) (by decide +kernel)) (fun _ _ _ _ _ => pg_name (i := 3) sc_law_anyrow.nd rfl (Or.inl rfl)) (fun _ _ _ _ _ => pts_nil) (fun _ _ _ _ _ => (pe_tup (pa_cons (pe_ix (ix_listK (K := K)) (pe_lst (pa_cons pe_str (pa_cons pe_str pa_nil))) (pe_df D_law_pick (hr.mono (by decide)) (by rfl) (pa_cons (pv 0) (pa_cons pe_int pa_nil))) (fun _ _ => rfl)) (pa_cons (pe_op op_add pe_int (pe_df D_law_pick (hr.mono (by decide)) (by rfl) (pa_cons (pv 0) (pa_cons pe_int pa_nil)))) pa_nil))))) pa_nil))))), ?_⟩
    refine ⟨_, rfl, _, rfl, c, n, L, rfl, ht, by omega, by omega, sm_p (by omega) (by decide), fun H1 r b1 t1 r0 r1 => ?_⟩
    refine ⟨_, _, rfl, rfl, ?_⟩
    have hm : 1 + r ≤ 8 := by omega
    refine ⟨_, rfl, _, rfl, by omega, by omega, fun D hD => ?_⟩
    have nDc : D ≠ c := (t1.ne hD).symm
    refine lc_range (lo := 0) (n := (1 + r).toNat) (fun i H' => But c H1 H' ∧ TapeAt c (n + 1 + 2 * i) H' ∧ ∃ vs ps, H' D = some (.lst vs) ∧ PiecesAt H' vs ps ∧ RowOk ps ∧ ps.length = i) ⟨.of (same_upd hD), t1.same (same_upd hD), [], [], upd_same, ⟨rfl, fun i p h => by simp at h⟩, (fun p hp => by cases hp), rfl⟩ ?_ ?_
    · rintro i H' hi ⟨bD, tD, vs, ps, hDv, hps, hok, rfl⟩
      refine ⟨rfl, ?_⟩
      unfold tYes
      refine iteT ?_
      refine ⟨(by show 2 ≤ sizeLine; decide), fun l nl => ?_⟩
      have sl := same_upd (o := .lst [.str (Str.ofString "rail"), .str (Str.ofString "rung")]) nl
      refine ⟨_, rfl, c, _, 2, rfl, tD.same sl, by omega, by decide, sm_p (by decide) (by decide), fun H2 x b2 t2 x0 x1 => ?_⟩
      have nlc : l ≠ c := (tD.ne nl).symm
      have hl2 := b2 _ _ nlc upd_same
      obtain ⟨wv, hwv⟩ : ∃ b : Bool, ([.str (Str.ofString "rail"), .str (Str.ofString "rung")] : List V)[x.toNat]? = some (.str (wd b)) := by
        have : x = 0 ∨ x = 1 := by omega
        rcases this with rfl | rfl
        · exact ⟨true, rfl⟩
        · exact ⟨false, rfl⟩
      have ex : x = (x.toNat : Int) := (Int.toNat_of_nonneg x0).symm
      rw [ex]
      refine ⟨l, _, _, _, rfl, rfl, SqL.of hl2, atI_nat (j := x.toNat) hwv, ?_⟩
      refine ⟨_, rfl, c, _, 12, rfl, t2, by omega, by decide, sm_p (by decide) (by decide), fun H3 y b3 t3 y0 y1 => ?_⟩
      refine ⟨_, _, rfl, rfl, (by show 2 ≤ sizeLine; decide), fun p np => ?_⟩
      have sp := same_upd (o := .tup [.str (wd wv), .int (1 + y)]) np
      have bA : But c H' (upd H3 p (.tup [.str (wd wv), .int (1 + y)])) := ((But.of sl).trans (b2.trans b3)).trans (.of sp)
      have hD3 := bA _ _ nDc hDv
      have pz : PcOk (wv, 1 + y) := ⟨by dsimp; omega, by dsimp; omega⟩
      refine ⟨vs, hD3, ?_, ?_, ?_, vs ++ [.ref p], ps ++ [(wv, 1 + y)], upd_same, ?_, hok.app (fun q hq => by rw [List.mem_singleton.mp hq]; exact pz), by simp⟩
      · rw [hps.1]
        exact small1000 (by omega)
      · intro b o nb e
        rw [upd_ne (ne_of_none e hD)]
        exact bA _ _ nb (bD _ _ nb e)
      · have t4 := t3.same sp
        obtain ⟨u1, u2, u3, hc, rest⟩ := t4
        refine TapeAt.le (n := n + 1 + 2 * ps.length + 1 + 1) ⟨u1, u2, u3, ?_, rest⟩ (by omega)
        rw [upd_ne nDc.symm]
        exact hc
      · have h1 := (hps.but bA tD.notup)
        have nD : ∀ xs, (upd H3 p (.tup [.str (wd wv), .int (1 + y)])) D ≠ some (.tup xs) := fun xs z => by rw [hD3] at z; cases z
        have h2 := h1.but (x := D) (H' := upd (upd H3 p (.tup [.str (wd wv), .int (1 + y)])) D (.lst (vs ++ [.ref p]))) But.upd nD
        have hD30 := ((But.of sl).trans (b2.trans b3)) _ _ nDc hDv
        have npD : p ≠ D := (ne_of_none hD30 np).symm
        have one : PieceAt (upd (upd H3 p (.tup [.str (wd wv), .int (1 + y)])) D (.lst (vs ++ [.ref p]))) (.ref p) (wv, 1 + y) := ⟨p, rfl, by rw [upd_ne npD]; exact upd_same⟩
        refine ⟨by rw [List.length_append, List.length_append, h2.1]; rfl, fun j q hq => ?_⟩
        by_cases hj : j < ps.length
        · rw [List.getElem?_append_left hj] at hq
          obtain ⟨v, hv, hv'⟩ := h2.2 j q hq
          exact ⟨v, by rw [List.getElem?_append_left (by rw [h2.1]; exact hj)]; exact hv, hv'⟩
        · rw [List.getElem?_append_right (by omega)] at hq
          have hj0 : j - ps.length = 0 := by
            have := (List.getElem?_eq_some_iff.mp hq).1
            simp at this
            omega
          rw [hj0] at hq
          cases hq
          exact ⟨_, by rw [List.getElem?_append_right (by rw [h2.1]; omega), h2.1, hj0]; rfl, one⟩
    · rintro H' ⟨bD, tD, vs, ps, hDv, hps, hok, hlen⟩
      refine ⟨D, _, rfl, .inl ⟨SqL.of hDv, fun q nq => ?_⟩⟩
      have sq := same_upd (o := .tup vs) nq
      have tq := tD.same sq
      exact k _ (.ref q) (.tuple (ps.map pcD)) ((b1.trans bD).trans (.of sq)) (tq.le (by omega)) (Dh.new tD nq (dhs_of_pieces tD hps)) (rowD_ok hok (by omega) (by omega)) (by show ((ps.map pcD).length : Int) ≤ L; rw [List.length_map]; omega)
abbrev s_law_even : Stmt := top 79
theorem sc_law_even : FnScope ["_law_tape", "_law_rail", "_law_rung", "_law_end"] ["_law_tape"] (defScope s_law_even) := ⟨rfl, rfl, rfl, by decide +kernel, rfl, by decide +kernel, by decide +kernel⟩

theorem ok_even {f : Addr} {fd : FuncData} (F : Fun K "_law_even" "_law_even" s_law_even f fd) (D_law_pick : Df P w K mg base 1 "_law_pick" ["_law_tape", "_law_many"] spDraw) : FnOk P w K mg base CX0 2 f fd ["_law_tape"] spEven := by
  refine F.ok sc_law_even (fun vs H Q E h => ?_) (fun cdv A outer s H vs Q E hr h => ?_)
  · obtain ⟨c, n, rfl, _⟩ := h
    rfl
  · obtain ⟨c, n, rfl, ht, hn, k⟩ := h
    refine ⟨_, (C8.pss_cut (ps_asg (pe_ix ix_list (pd_lst (pds_cons (pd_tup (pds_cons pd_int (pds_cons pd_int (pds_cons pd_int pds_nil)))) (pds_cons (pd_tup (pds_cons pd_int (pds_cons pd_int (pds_cons pd_int pds_nil)))) (pds_cons (pd_tup (pds_cons pd_int (pds_cons pd_int (pds_cons pd_int pds_nil)))) (pds_cons (pd_tup (pds_cons pd_int (pds_cons pd_int (pds_cons pd_int pds_nil)))) (pds_cons (pd_tup (pds_cons pd_int (pds_cons pd_int (pds_cons pd_int pds_nil)))) (pds_cons (pd_tup (pds_cons pd_int (pds_cons pd_int (pds_cons pd_int pds_nil)))) (pds_cons (pd_tup (pds_cons pd_int (pds_cons pd_int (pds_cons pd_int pds_nil)))) (pds_cons (pd_tup (pds_cons pd_int (pds_cons pd_int (pds_cons pd_int pds_nil)))) (pds_cons (pd_tup (pds_cons pd_int (pds_cons pd_int (pds_cons pd_int pds_nil)))) (pds_cons (pd_tup (pds_cons pd_int (pds_cons pd_int (pds_cons pd_int pds_nil)))) (pds_cons (pd_tup (pds_cons pd_int (pds_cons pd_int (pds_cons pd_int pds_nil)))) (pds_cons (pd_tup (pds_cons pd_int (pds_cons pd_int (pds_cons pd_int pds_nil)))) pds_nil))))))))))))) (pe_df D_law_pick (hr.mono (by decide)) (by rfl) (pa_cons (pv 0) (pa_cons pe_int pa_nil))) (fun _ _ => rfl)) (pg_tup rfl (pgs_cons (pg_name (i := 1) sc_law_even.nd rfl (.inl rfl)) (pgs_cons (pg_name (i := 2) sc_law_even.nd rfl (.inl rfl)) (pgs_cons (pg_name (i := 3) sc_law_even.nd rfl (.inl rfl)) pgs_nil)))))
      (pss_cons (ps_if (pt_cmpR op_eq (pe_df D_law_pick (hr.mono (by decide)) (by rfl) (pa_cons (pv 0) (pa_cons pe_int pa_nil))) pe_int (nomark _)) (pss_one (ps_ret (pe_tup (pa_cons (pe_tup (pa_cons (pe_tup (pa_cons pe_str (pa_cons (pv 1) pa_nil))) (pa_cons (pe_tup (pa_cons pe_str (pa_cons (pv 2) pa_nil))) pa_nil))) (pa_cons (pv 3) pa_nil))))) pss_nil)
      (pss_one (ps_ret (pe_tup (pa_cons (pe_tup (pa_cons (pe_tup (pa_cons pe_str (pa_cons (pv 2) pa_nil))) (pa_cons (pe_tup (pa_cons pe_str (pa_cons (pv 1) pa_nil))) pa_nil))) (pa_cons (pe_op op_sub (pv 3) (pv 1)) pa_nil))))))), ?_⟩
    refine ⟨fun σ' H' => ∃ x y z : Int, σ' = [some (.ref c), some (.int x), some (.int y), some (.int z)] ∧ But c H H' ∧ TapeAt c (n + 1) H' ∧ (1 ≤ x ∧ x ≤ 12) ∧ (1 ≤ y ∧ y ≤ 12) ∧ x ≤ z ∧ z ≤ 12, ?_, ?_⟩
    · intro H1 lv s1 hlv
      obtain ⟨a, vs, rfl, nac, ha, hvs⟩ := lit_ix ht hlv
      refine ⟨_, rfl, c, _, 12, rfl, ht.same s1, by omega, by decide, sm_p (by decide) (by decide), fun H2 j b2 t2 j0 j1 => ?_⟩
      obtain ⟨i, hi, rfl⟩ : ∃ i : Nat, i < 12 ∧ j = (i : Int) := ⟨j.toNat, by omega, (Int.toNat_of_nonneg j0).symm⟩
      obtain ⟨d, hd⟩ : ∃ d, ([PyData.tuple [.int 1, .int 2, .int 2], .tuple [.int 1, .int 6, .int 3], .tuple [.int 1, .int 12, .int 4], .tuple [.int 2, .int 4, .int 4], .tuple [.int 2, .int 12, .int 6], .tuple [.int 3, .int 6, .int 6], .tuple [.int 4, .int 3, .int 6], .tuple [.int 4, .int 8, .int 8], .tuple [.int 5, .int 10, .int 10], .tuple [.int 6, .int 12, .int 12], .tuple [.int 8, .int 6, .int 12], .tuple [.int 9, .int 4, .int 12]] : List PyData)[i]? = some d := ⟨_, List.getElem?_eq_getElem hi⟩
      obtain ⟨xv, hx, hdx⟩ := Drs.at_ hvs hd
      obtain ⟨x, y, z, rfl, q⟩ : ∃ x y z : Int, d = .tuple [.int x, .int y, .int z] ∧ (1 ≤ x ∧ x ≤ 12) ∧ (1 ≤ y ∧ y ≤ 12) ∧ x ≤ z ∧ z ≤ 12 := by
        have hm := List.mem_of_getElem? hd
        simp only [List.mem_cons, List.not_mem_nil, or_false] at hm
        rcases hm with rfl | rfl | rfl | rfl | rfl | rfl | rfl | rfl | rfl | rfl | rfl | rfl <;> exact ⟨_, _, _, rfl, by decide, by decide, by decide, by decide⟩
      obtain ⟨u, us, rfl, hu, hus⟩ := Dr.tuple (Dh.dr hdx)
      obtain ⟨rfl⟩ : us = [.int x, .int y, .int z] := by
        match us, hus with
        | [x1, x2, x3], hus =>
          have h1 := hus.inv.1.toInt
          have h2 := hus.inv.2.inv.1.toInt
          have h3 := hus.inv.2.inv.2.inv.1.toInt
          rw [h1, h2, h3]
        | [], hus => exact absurd hus.1 (by simp)
        | [_], hus => exact absurd hus.1 (by simp)
        | [_, _], hus => exact absurd hus.1 (by simp)
        | _ :: _ :: _ :: _ :: _, hus => exact absurd hus.1 (by simp)
      have nuc := (ht.same s1).nt hu
      refine ⟨a, vs, _, _, rfl, rfl, SqL.of (b2 _ _ nac ha), atI_nat hx, ?_⟩
      refine ⟨u, _, rfl, SqT.of (b2 _ _ nuc hu), rfl, _, _, rfl, _, _, rfl, _, _, rfl, rfl, ?_⟩
      exact ⟨x, y, z, rfl, (But.of s1).trans b2, t2, q⟩
    rintro σ1 H1 ⟨x, y, z, rfl, b1, t1, hx, hy, xz, z12⟩
    have fin : ∀ {H2 : Hp} {g1 g2 r p : Addr} {b : Bool} {x' y' z' : Int}, But c H H2 → TapeAt c (n + 2) H2 → H2 g1 = some (.tup [.str (wd b), .int x']) → H2 g2 = some (.tup [.str (wd (!b)), .int y']) → H2 r = some (.tup [.ref g1, .ref g2]) → H2 p = some (.tup [.ref r, .int z']) → (1 ≤ x' ∧ x' ≤ 12) → (1 ≤ y' ∧ y' ≤ 12) → (0 ≤ z' ∧ z' ≤ 12) → Q (.ref p) H2 := fun {H2 g1 g2 r p b x' y' z'} bb tt h1 h2 h3 h4 q1 q2 q3 => by
      refine k H2 p _ _ _ bb tt h4 (dh_at tt h3 (Drs.cons (dh_at tt h1 (Drs.cons (.str _) (Drs.cons (.int _) Drs.nil))) (Drs.cons (dh_at tt h2 (Drs.cons (.str _) (Drs.cons (.int _) Drs.nil))) Drs.nil))) (row2_ok q1 q2) (Nat.le_refl 2) (.inr ⟨z', rfl, q3.1, q3.2⟩)
    refine ⟨_, rfl, c, _, 2, rfl, t1, by omega, by decide, sm_p (by decide) (by decide), fun H2 j b2 t2 j0 j1 => ?_⟩
    have bA := b1.trans b2
    refine ⟨rfl, _, rfl, ite2 (fun _ => ?_) (fun _ => ?_)⟩
    · refine ⟨_, rfl, (by show 2 ≤ sizeLine; decide), fun g1 n1 => ?_⟩
      have s1 := same_upd (o := .tup [.str (Str.ofString "rail"), .int x]) n1
      refine ⟨_, rfl, (by show 2 ≤ sizeLine; decide), fun g2 n2 => ?_⟩
      have s2 := same_upd (o := .tup [.str (Str.ofString "rung"), .int y]) n2
      refine ⟨(by show 2 ≤ sizeLine; decide), fun r nr => ?_⟩
      have s3 := same_upd (o := .tup [.ref g1, .ref g2]) nr
      refine ⟨_, rfl, (by show 2 ≤ sizeLine; decide), fun p np => ?_⟩
      have s4 := same_upd (o := .tup [.ref r, .int z]) np
      have sA := ((s1.trans s2).trans s3).trans s4
      exact fin (b := true) (bA.trans (.of sA)) (t2.same sA) (((s2.trans s3).trans s4) _ _ upd_same) ((s3.trans s4) _ _ upd_same) (s4 _ _ upd_same) upd_same hx hy ⟨by omega, z12⟩
    · refine ⟨_, rfl, (by show 2 ≤ sizeLine; decide), fun g1 n1 => ?_⟩
      have s1 := same_upd (o := .tup [.str (Str.ofString "rung"), .int y]) n1
      refine ⟨_, rfl, (by show 2 ≤ sizeLine; decide), fun g2 n2 => ?_⟩
      have s2 := same_upd (o := .tup [.str (Str.ofString "rail"), .int x]) n2
      refine ⟨(by show 2 ≤ sizeLine; decide), fun r nr => ?_⟩
      have s3 := same_upd (o := .tup [.ref g1, .ref g2]) nr
      refine ⟨_, rfl, _, rfl, _, _, rfl, rfl, (by show 2 ≤ sizeLine; decide), fun p np => ?_⟩
      have s4 := same_upd (o := .tup [.ref r, .int (z - x)]) np
      have sA := ((s1.trans s2).trans s3).trans s4
      exact fin (b := false) (bA.trans (.of sA)) (t2.same sA) (((s2.trans s3).trans s4) _ _ upd_same) ((s3.trans s4) _ _ upd_same) (s4 _ _ upd_same) upd_same hy hx ⟨by omega, by omega⟩
abbrev s_law_some_row : Stmt := top 80
theorem sc_law_some_row : FnScope ["_law_tape", "_law_longest"] ["_law_tape", "_law_longest"] (defScope s_law_some_row) := ⟨rfl, rfl, rfl, by decide +kernel, rfl, by decide +kernel, by decide +kernel⟩

theorem ok_somerow {f : Addr} {fd : FuncData} (F : Fun K "_law_some_row" "_law_some_row" s_law_some_row f fd) (D_law_pick : Df P w K mg base 1 "_law_pick" ["_law_tape", "_law_many"] spDraw) (D_law_even : Df P w K mg base 2 "_law_even" ["_law_tape"] spEven) (D_law_anyrow : Df P w K mg base 2 "_law_anyrow" ["_law_tape", "_law_longest"] spAnyRowL) : FnOk P w K mg base CX0 3 f fd ["_law_tape", "_law_longest"] spSomeRow := by
  refine F.ok sc_law_some_row (fun vs H Q E h => ?_) (fun cdv A outer s H vs Q E hr h => ?_)
  · obtain ⟨c, n, L, rfl, _⟩ := h
    rfl
  · obtain ⟨c, n, L, rfl, ht, hn, L1, L8, k⟩ := h
    refine ⟨_, (pss_cons (ps_if (pt_cmpR op_eq (pe_df D_law_pick (hr.mono (by decide)) (by rfl) (pa_cons (pv 0) (pa_cons pe_int pa_nil))) pe_int (nomark _)) (pss_one (ps_ret (pe_df D_law_even (hr.mono (by decide)) (by rfl) (pa_cons (pv 0) pa_nil)))) pss_nil)
      (pss_one (ps_ret (pe_tup (pa_cons (pe_df D_law_anyrow (hr.mono (by decide)) (by rfl) (pa_cons (pv 0) (pa_cons (pv 1) pa_nil))) (pa_cons pe_non pa_nil)))))), ?_⟩
    refine ⟨_, rfl, c, _, 3, rfl, ht, by omega, by decide, sm_p (by decide) (by decide), fun H1 j b1 t1 j0 j1 => ?_⟩
    refine ⟨rfl, _, rfl, ite2 (fun _ => ?_) (fun _ => ?_)⟩
    · exact ⟨_, rfl, c, _, rfl, t1, by omega, fun H2 p v d ev b2 t2 hp hd hg hl he => k _ p v d ev (b1.trans b2) (t2.le (by omega)) hp hd hg (by omega) he⟩
    · refine ⟨_, rfl, _, rfl, c, _, L, rfl, t1, by omega, by omega, L8, fun H2 v d b2 t2 hd hg hl => ?_⟩
      refine ⟨(by show 2 ≤ sizeLine; decide), fun p np => ?_⟩
      have sp := same_upd (o := .tup [v, .non]) np
      exact k _ p v d .non ((b1.trans b2).trans (.of sp)) ((t2.same sp).le (by omega)) upd_same (hd.same sp) hg hl (.inl rfl)
abbrev s_law_near : Stmt := top 81
theorem sc_law_near : FnScope ["_law_tape", "_law_row", "_law_way", "_law_place", "_law_size", "_law_more", "_law_word"] ["_law_tape", "_law_row"] (defScope s_law_near) := ⟨rfl, rfl, rfl, by decide +kernel, rfl, by decide +kernel, by decide +kernel⟩

theorem ok_near {f : Addr} {fd : FuncData} (F : Fun K "_law_near" "_law_near" s_law_near f fd) (T : TxtA K mg w tG t1 t3 tC tK aO aW aCh) (D_law_pick : Df P w K mg base 1 "_law_pick" ["_law_tape", "_law_many"] spDraw) (D_law_anyrow : Df P w K mg base 2 "_law_anyrow" ["_law_tape", "_law_longest"] spAnyRowL) : FnOk P w K mg base CX0 3 f fd ["_law_tape", "_law_row"] spNear := by
  refine F.ok sc_law_near (fun vs H Q E h => ?_) (fun cdv A outer s H vs Q E hr h => ?_)
  · obtain ⟨c, n, v, d, rfl, _⟩ := h
    rfl
  · obtain ⟨c, n, v, d, rfl, ht, hn, hd, hg, hl, k⟩ := h
    obtain ⟨ds, rfl⟩ := row_tup hg
    obtain ⟨l1, _, hpc⟩ := row_parts hg
    have l5 : ds.length ≤ 5 := hl
    obtain ⟨t, ys, rfl, ht0, hys0⟩ := Dr.tuple hd
    obtain ⟨ntc, hS0⟩ := hid_get ht0
    have hys0 : Dhs c H ys ds := hys0
    have ly : ys.length = ds.length := hys0.1
    refine ⟨_, (C8.pss_cut (ps_par (by rfl) sc_law_near.nd (i := 2) (j := 3) rfl rfl (by decide) rfl rfl (pa_cons (pe_df D_law_pick (hr.mono (by decide)) (by rfl) (pa_cons (pv 0) (pa_cons pe_int pa_nil))) (pa_cons (pe_df D_law_pick (hr.mono (by decide)) (by rfl) (pa_cons (pv 0) (pa_cons (pe_callB call_len_seq (by rfl) T.len (by decide +kernel) (pa_cons (pv 1) pa_nil)) pa_nil))) pa_nil)) (by rfl))
      (C8.pss_cut (ps_par (by rfl) sc_law_near.nd (i := 4) (j := 5) rfl rfl (by decide) rfl rfl (pa_cons (pe_op op_add pe_int (pe_df D_law_pick (hr.mono (by decide)) (by rfl) (pa_cons (pv 0) (pa_cons pe_int pa_nil)))) (pa_cons (pe_df D_law_anyrow (hr.mono (by decide)) (by rfl) (pa_cons (pv 0) (pa_cons pe_int pa_nil))) pa_nil)) (by rfl))
      (pss_cons (ps_if (pt_cmpR op_eq (pv 2) pe_int (nomark _)) (pss_one (ps_ret (pe_revT (pv 1)))) pss_nil)
      (pss_cons (ps_if (pt_cmpR op_eq (pv 2) pe_int (nomark _)) (pss_one (ps_ret (pe_op op_catB (pe_op op_catB (pe_slice sl_tupB (pv 1) po_none (po_some (pv 3))) (pe_tup (pa_cons (pe_tup (pa_cons (pe_ix ix_tup (pe_ix ix_tup (pv 1) (pv 3) (fun _ _ => rfl)) pe_int (fun _ _ => rfl)) (pa_cons (pv 4) pa_nil))) pa_nil))) (pe_slice sl_tupB (pv 1) (po_some (pe_op op_add (pv 3) pe_int)) po_none)))) pss_nil)
      (pss_cons (ps_if (pt_cmpR op_lt (pv 2) pe_int (nomark _)) (pss_one (ps_ret (pe_ifExp (pt_cmpR op_eq (pv 2) pe_int (nomark _)) (pe_op op_catB (pv 5) (pv 1)) (pe_op op_catB (pv 1) (pv 5))))) pss_nil)
      (pss_cons (ps_if (pt_cmpR op_eq (pv 2) pe_int (nomark _)) (pss_one (ps_ret (pe_df D_law_anyrow (hr.mono (by decide)) (by rfl) (pa_cons (pv 0) (pa_cons pe_int pa_nil))))) pss_nil)
      (C8.pss_cut (ps_asg (pe_ix ix_tup (pv 1) (pv 3) (fun _ _ => rfl)) (pg_tup rfl (pgs_cons (pg_name (i := 6) sc_law_near.nd rfl (.inl rfl)) (pgs_cons (pg_name (i := 4) sc_law_near.nd rfl (.inl rfl)) pgs_nil))))
      (pss_cons (ps_if (PW.pt (pw_and (pt_cmpR op_eq (pv 6) pe_str (nomark _)) (pw_and1 (pt_cmpR op_gt (pv 4) pe_int (nomark _))))) (pss_one (ps_ret (pe_op op_catB (pe_op op_catB (pe_slice sl_tupB (pv 1) po_none (po_some (pv 3))) (pe_tup (pa_cons (pe_tup (pa_cons pe_str (pa_cons pe_int pa_nil))) (pa_cons (pe_tup (pa_cons pe_str (pa_cons (pe_op op_sub (pv 4) pe_int) pa_nil))) pa_nil)))) (pe_slice sl_tupB (pv 1) (po_some (pe_op op_add (pv 3) pe_int)) po_none)))) pss_nil)
      (pss_one (ps_ret (pv 1))))))))))), ?_⟩
    refine ⟨fun σ' H' => ∃ (way : Int) (i : Nat), σ' = [some (.ref c), some (.ref t), some (.int way), some (.int (i : Int)), none, none, none] ∧ i < ds.length ∧ But c H H' ∧ TapeAt c (n + 2) H', ?_, ?_⟩
    · refine ⟨_, rfl, c, n, 7, rfl, ht, by omega, by decide, sm_p (by decide) (by decide), fun H1 way b1 t1 w0 w1 => ?_⟩
      refine ⟨_, rfl, _, rfl, t, _, rfl, .inr (SqT.of (b1 _ _ ntc hS0)), c, _, _, rfl, t1, by omega, by omega, sm_p (by omega) (by decide), fun H2 pl b2 t2 p0 p1 => ?_⟩
      refine ⟨_, _, rfl, way, pl.toNat, ?_, by omega, b1.trans b2, t2⟩
      rw [Int.toNat_of_nonneg p0]
      rfl
    rintro σ1 H1 ⟨way, i, rfl, ids, b1, t1⟩
    refine ⟨fun σ' H' => ∃ (z : Int) (g : Addr) (gs : List V) (ms : List PyData), σ' = [some (.ref c), some (.ref t), some (.int way), some (.int (i : Int)), some (.int z), some (.ref g), none] ∧ (1 ≤ z ∧ z ≤ 12) ∧ But c H H' ∧ TapeAt c (n + 20) H' ∧ H' g = some (.tup gs) ∧ Dhs c H' gs ms ∧ 1 ≤ ms.length ∧ ms.length ≤ 1 ∧ (∀ x ∈ ms, pieceG x = true), ?_, ?_⟩
    · refine ⟨_, rfl, c, _, 12, rfl, t1, by omega, by decide, sm_p (by decide) (by decide), fun H2 x b2 t2 x0 x1 => ?_⟩
      refine ⟨_, _, rfl, rfl, _, rfl, c, _, 1, rfl, t2, by omega, by decide, by decide, fun H3 m md b3 t3 hm hmg hml => ?_⟩
      obtain ⟨ms, rfl⟩ := row_tup hmg
      obtain ⟨q1, _, qp⟩ := row_parts hmg
      have q5 : (ms.length : Int) ≤ 1 := hml
      obtain ⟨g, gs, rfl, hg0, hgs⟩ := Dr.tuple hm
      exact ⟨_, _, rfl, 1 + x, g, gs, ms, rfl, by omega, (b1.trans b2).trans b3, t3, (hid_get hg0).2, hgs, q1, by omega, qp⟩
    rintro σ2 H2 ⟨z, g, gs, ms, rfl, hz, b2, t2, hg2, hgs, m1, m2, mp⟩
    have hS := b2 _ _ ntc hS0
    have hys := hys0.but b2
    have lg : gs.length = ms.length := hgs.1
    have put : ∀ {H' : Hp} {rr : Addr} {vs : List V} {es : List PyData}, Same H2 H' → H' rr = some (.tup vs) → Dhs c H' vs es → 1 ≤ es.length → es.length ≤ 8 → (∀ x ∈ es, pieceG x = true) → Q (.ref rr) H' := fun {H' rr vs es} s hr hh a b h => by
      have tt := t2.same s
      exact k H' _ _ (b2.trans (.of s)) (tt.le (by omega)) (dh_at tt hr hh) (row_mk a b h)
    have iys : i < ys.length := by omega
    have li : i ≤ ys.length := by omega
    have li1 : i + 1 ≤ ys.length := by omega
    have c1 : cutV ys none (some (i : Int)) = ys.take i := cutT li
    have c2 : cutV ys (some ((i : Int) + 1)) none = ys.drop (i + 1) := cutD (i := i + 1) li1
    have tk : (ys.take i).length ≤ 5 := by
      rw [List.length_take]
      omega
    have dk : (ys.drop (i + 1)).length ≤ 5 := by
      rw [List.length_drop]
      omega
    obtain ⟨x, hx⟩ : ∃ x, ds[i]? = some x := ⟨_, List.getElem?_eq_getElem ids⟩
    obtain ⟨xv, hxv, hxd⟩ := Drs.at_ hys hx
    obtain ⟨sx, nx, rfl, ws, wn, pk⟩ := piece_of (hpc x (List.mem_of_getElem? hx))
    obtain ⟨u, us, rfl, hu, hus⟩ := Dr.tuple hxd
    obtain ⟨nuc, hu2⟩ := hid_get hu
    obtain ⟨rfl⟩ : us = [.str sx, .int nx] := by
      match us, hus with
      | [x1, x2], hus =>
        have h1 := hus.inv.1.toStr
        have h2 := hus.inv.2.inv.1.toInt
        rw [h1, h2]
      | [], hus => exact absurd hus.1 (by simp)
      | [_], hus => exact absurd hus.1 (by simp)
      | _ :: _ :: _ :: _, hus => exact absurd hus.1 (by simp)
    have newp : ∀ b : Bool, ∀ z : Int, 1 ≤ z → z ≤ 12 → pieceG (.tuple [.str (wd b), .int z]) = true := fun b z h1 h2 => pcD_ok (p := (b, z)) ⟨h1, h2⟩
    -- some pieces in the place of one
    have setp : ∀ {H' : Hp} {rr : Addr} {xs : List V} {xd : List PyData}, Same H2 H' → H' rr = some (.tup (ys.take i ++ xs ++ ys.drop (i + 1))) → Dhs c H' xs xd → 1 ≤ xd.length → xd.length ≤ 2 → (∀ x ∈ xd, pieceG x = true) → Q (.ref rr) H' := fun {H' rr xs xd} s hr hh a b h => by
      refine put s hr (Drs.app (Drs.app (Drs.take (hys.same s) i) hh) (Drs.drop (hys.same s) (i + 1))) ?_ ?_ ?_
      · simp only [List.length_append]
        omega
      · simp only [List.length_append, List.length_take, List.length_drop]
        omega
      · intro y hy
        rcases List.mem_append.mp hy with hy | hy
        · rcases List.mem_append.mp hy with hy | hy
          · exact hpc y (List.mem_of_mem_take hy)
          · exact h y hy
        · exact hpc y (List.mem_of_mem_drop hy)
    refine ⟨_, rfl, rfl, _, rfl, ite2 (fun _ => ?_) (fun _ => ?_)⟩
    · refine ⟨_, rfl, t, ys, rfl, SqT.of hS, fun p np => ?_⟩
      have sp := same_upd (o := .tup ys.reverse) np
      exact put sp upd_same (Drs.rev (hys.same sp)) (by rw [List.length_reverse]; omega) (by rw [List.length_reverse]; omega) (fun y hy => hpc y (List.mem_reverse.mp hy))
    refine ⟨_, rfl, rfl, _, rfl, ite2 (fun _ => ?_) (fun _ => ?_)⟩
    · refine ⟨_, rfl, _, rfl, _, rfl, t, ys, rfl, hS, fun H3 p s3 hp => ?_⟩
      rw [c1] at hp
      refine ⟨_, rfl, _, rfl, t, _, _, _, rfl, rfl, SqT.of (s3 _ _ hS), atI_nat hxv, ?_⟩
      refine ⟨u, _, _, _, rfl, rfl, SqT.of (s3 _ _ hu2), atI_nat (j := 0) rfl, ?_⟩
      refine ⟨_, rfl, (by show 2 ≤ sizeLine; decide), fun q nq => ?_⟩
      have sq := same_upd (o := .tup [.str sx, .int z]) nq
      refine ⟨(by show 1 ≤ sizeLine; decide), fun q1 nq1 => ?_⟩
      have sq1 := same_upd (o := .tup [.ref q]) nq1
      refine ⟨p, q1, _, _, rfl, rfl, (sq.trans sq1) _ _ hp, upd_same, (by show _ + 1 ≤ 1000; omega), fun H4 r s4 hr' => ?_⟩
      have sA := ((s3.trans sq).trans sq1).trans s4
      refine ⟨_, rfl, _, rfl, _, _, rfl, rfl, _, rfl, t, ys, rfl, sA _ _ hS, fun H5 v s5 hv => ?_⟩
      rw [c2] at hv
      refine ⟨r, v, _, _, rfl, rfl, s5 _ _ hr', hv, ?_, fun H6 y s6 hy => ?_⟩
      · rw [List.length_append]
        show _ + 1 + _ ≤ 1000
        omega
      have sB := (sA.trans s5).trans s6
      have hq : H6 q = some (.tup [.str sx, .int z]) := (((sq1.trans s4).trans s5).trans s6) _ _ upd_same
      refine setp sB hy (Drs.cons (dh_at (t2.same sB) hq (Drs.cons (.str _) (Drs.cons (.int _) Drs.nil))) Drs.nil) (by show 1 ≤ 1; decide) (by show 1 ≤ 2; decide) (fun y hy => ?_)
      rw [List.mem_singleton.mp hy, ← ws]
      exact newp _ _ hz.1 hz.2
    refine ⟨_, rfl, _, _, rfl, rfl, _, rfl, ite2 (fun _ => ?_) (fun _ => ?_)⟩
    · refine ⟨_, rfl, rfl, _, rfl, ite2 (fun _ => ?_) (fun _ => ?_)⟩
      · refine ⟨_, rfl, _, rfl, g, t, _, _, rfl, rfl, hg2, hS, by omega, fun H3 r s3 hr' => ?_⟩
        refine put s3 hr' (Drs.app (hgs.same s3) (hys.same s3)) (by rw [List.length_append]; omega) (by rw [List.length_append]; omega) (fun y hy => ?_)
        rcases List.mem_append.mp hy with hy | hy
        · exact mp y hy
        · exact hpc y hy
      · refine ⟨_, rfl, _, rfl, t, g, _, _, rfl, rfl, hS, hg2, by omega, fun H3 r s3 hr' => ?_⟩
        refine put s3 hr' (Drs.app (hys.same s3) (hgs.same s3)) (by rw [List.length_append]; omega) (by rw [List.length_append]; omega) (fun y hy => ?_)
        rcases List.mem_append.mp hy with hy | hy
        · exact hpc y hy
        · exact mp y hy
    refine ⟨_, rfl, rfl, _, rfl, ite2 (fun _ => ?_) (fun _ => ?_)⟩
    · exact ⟨_, rfl, c, _, 4, rfl, t2, by omega, by decide, by decide, fun H3 v d b3 t3 hd hg _ => k H3 v d (b2.trans b3) (t3.le (by omega)) hd hg⟩
    refine ⟨fun σ' H' => σ' = [some (.ref c), some (.ref t), some (.int way), some (.int (i : Int)), some (.int nx), some (.ref g), some (.str sx)] ∧ H' = H2, ?_, ?_⟩
    · refine ⟨_, rfl, _, rfl, t, _, _, _, rfl, rfl, SqT.of hS, atI_nat hxv, ?_⟩
      refine ⟨u, _, rfl, SqT.of hu2, rfl, _, _, rfl, _, _, rfl, rfl, ?_⟩
      exact ⟨rfl, rfl⟩
    rintro σ3 H3 ⟨rfl, rfl⟩
    have back : Q (.ref t) H3 := put (Same.refl _) hS hys l1 (by omega) hpc
    refine ⟨_, rfl, rfl, _, rfl, ite2 (fun _ => ?_) (fun _ => ⟨_, rfl, back⟩)⟩
    refine ⟨_, rfl, _, _, rfl, rfl, _, rfl, ite2 (fun e2 => ?_) (fun _ => ⟨_, rfl, back⟩)⟩
    have nx1 : 1 < nx := of_decide_eq_true e2
    have nx2 : nx ≤ 12 := by
      have := pk.2
      rw [wn] at this
      exact this
    refine ⟨_, rfl, _, rfl, _, rfl, t, ys, rfl, hS, fun H4 p s4 hp => ?_⟩
    rw [c1] at hp
    refine ⟨(by show 2 ≤ sizeLine; decide), fun q nq => ?_⟩
    have sq := same_upd (o := .tup [.str (Str.ofString "rail"), .int 1]) nq
    refine ⟨_, rfl, _, _, rfl, rfl, (by show 2 ≤ sizeLine; decide), fun q2 nq2 => ?_⟩
    have sq2 := same_upd (o := .tup [.str (Str.ofString "rail"), .int (nx - 1)]) nq2
    refine ⟨(by show 2 ≤ sizeLine; decide), fun q1 nq1 => ?_⟩
    have sq1 := same_upd (o := .tup [.ref q, .ref q2]) nq1
    refine ⟨p, q1, _, _, rfl, rfl, ((sq.trans sq2).trans sq1) _ _ hp, upd_same, (by show _ + 2 ≤ 1000; omega), fun H5 r s5 hr' => ?_⟩
    have sA := (((s4.trans sq).trans sq2).trans sq1).trans s5
    refine ⟨_, rfl, _, rfl, _, _, rfl, rfl, _, rfl, t, ys, rfl, sA _ _ hS, fun H6 v s6 hv => ?_⟩
    rw [c2] at hv
    refine ⟨r, v, _, _, rfl, rfl, s6 _ _ hr', hv, ?_, fun H7 y s7 hy => ?_⟩
    · rw [List.length_append]
      show _ + 2 + _ ≤ 1000
      omega
    have sB := (sA.trans s6).trans s7
    have hq : H7 q = some (.tup [.str (wd true), .int 1]) := ((((sq2.trans sq1).trans s5).trans s6).trans s7) _ _ upd_same
    have hq2 : H7 q2 = some (.tup [.str (wd true), .int (nx - 1)]) := (((sq1.trans s5).trans s6).trans s7) _ _ upd_same
    refine setp sB hy (Drs.cons (dh_at (t2.same sB) hq (Drs.cons (.str _) (Drs.cons (.int _) Drs.nil))) (Drs.cons (dh_at (t2.same sB) hq2 (Drs.cons (.str _) (Drs.cons (.int _) Drs.nil))) Drs.nil)) (by show 1 ≤ 2; decide) (by show 2 ≤ 2; decide) (fun y hy => ?_)
    simp only [List.mem_cons, List.not_mem_nil, or_false] at hy
    rcases hy with rfl | rfl
    · exact newp _ _ (by decide) (by decide)
    · exact newp _ _ (by omega) (by omega)
abbrev s_law_crossing : Stmt := top 92
theorem sc_law_crossing : FnScope ["_law_tape", "_law_size", "_law_row"] ["_law_tape"] (defScope s_law_crossing) := ⟨rfl, rfl, rfl, by decide +kernel, rfl, by decide +kernel, by decide +kernel⟩

theorem ok_cross {f : Addr} {fd : FuncData} (F : Fun K "_law_crossing" "_law_crossing" s_law_crossing f fd) (D_law_pick : Df P w K mg base 1 "_law_pick" ["_law_tape", "_law_many"] spDraw) : FnOk P w K mg base CX0 2 f fd ["_law_tape"] spCross := by
  refine F.ok sc_law_crossing (fun vs H Q E h => ?_) (fun cdv A outer s H vs Q E hr h => ?_)
  · obtain ⟨c, n, rfl, _⟩ := h
    rfl
  · obtain ⟨c, n, rfl, ht, hn, k⟩ := h
    refine ⟨_, (pss_cons (ps_set (i := 1) sc_law_crossing.nd rfl (.inl rfl) (pe_op op_add pe_int (pe_df D_law_pick (hr.mono (by decide)) (by rfl) (pa_cons (pv 0) (pa_cons pe_int pa_nil)))))
      (pss_cons (ps_set (i := 2) sc_law_crossing.nd rfl (.inl rfl) (pe_tup (pa_cons (pe_tup (pa_cons pe_str (pa_cons (pe_op op_add (pe_op op_add (pv 1) pe_int) (pe_df D_law_pick (hr.mono (by decide)) (by rfl) (pa_cons (pv 0) (pa_cons pe_int pa_nil)))) pa_nil))) (pa_cons (pe_tup (pa_cons pe_str (pa_cons (pe_op op_add pe_int (pe_df D_law_pick (hr.mono (by decide)) (by rfl) (pa_cons (pv 0) (pa_cons pe_int pa_nil)))) pa_nil))) pa_nil))))
      (pss_one (ps_ret (pe_tup (pa_cons (pv 2) (pa_cons (pe_tup (pa_cons (pe_tup (pa_cons pe_str (pa_cons (pv 1) pa_nil))) (pa_cons (pe_tup (pa_cons pe_str (pa_cons pe_int pa_nil))) (pa_cons (pe_tup (pa_cons pe_str (pa_cons pe_int pa_nil))) pa_nil)))) pa_nil))))))), ?_⟩
    refine ⟨_, rfl, c, n, 6, rfl, ht, by omega, by decide, sm_p (by decide) (by decide), fun H1 x b1 t1 x0 x1 => ?_⟩
    refine ⟨_, _, rfl, rfl, ?_⟩
    refine ⟨_, rfl, _, _, rfl, rfl, _, rfl, c, _, 3, rfl, t1, by omega, by decide, sm_p (by decide) (by decide), fun H2 y b2 t2 y0 y1 => ?_⟩
    refine ⟨_, _, rfl, rfl, (by show 2 ≤ sizeLine; decide), fun g1 n1 => ?_⟩
    have s1 := same_upd (o := .tup [.str (Str.ofString "rail"), .int (1 + x + 4 + y)]) n1
    refine ⟨_, rfl, c, _, 8, rfl, t2.same s1, by omega, by decide, sm_p (by decide) (by decide), fun H3 z b3 t3 z0 z1 => ?_⟩
    refine ⟨_, _, rfl, rfl, (by show 2 ≤ sizeLine; decide), fun g2 n2 => ?_⟩
    have s2 := same_upd (o := .tup [.str (Str.ofString "rung"), .int (1 + z)]) n2
    refine ⟨(by show 2 ≤ sizeLine; decide), fun r nr => ?_⟩
    have s3 := same_upd (o := .tup [.ref g1, .ref g2]) nr
    refine ⟨_, rfl, _, rfl, (by show 2 ≤ sizeLine; decide), fun g3 n3 => ?_⟩
    have s4 := same_upd (o := .tup [.str (Str.ofString "rail"), .int (1 + x)]) n3
    refine ⟨(by show 2 ≤ sizeLine; decide), fun g4 n4 => ?_⟩
    have s5 := same_upd (o := .tup [.str (Str.ofString "rung"), .int 12]) n4
    refine ⟨(by show 2 ≤ sizeLine; decide), fun g5 n5 => ?_⟩
    have s6 := same_upd (o := .tup [.str (Str.ofString "rail"), .int 12]) n5
    refine ⟨(by show 3 ≤ sizeLine; decide), fun r2 nr2 => ?_⟩
    have s7 := same_upd (o := .tup [.ref g3, .ref g4, .ref g5]) nr2
    refine ⟨(by show 2 ≤ sizeLine; decide), fun p np => ?_⟩
    have s8 := same_upd (o := .tup [.ref r, .ref r2]) np
    have s78 := s7.trans s8
    have s68 := s6.trans s78
    have s58 := s5.trans s68
    have s48 := s4.trans s58
    have s38 := s3.trans s48
    have s28 := s2.trans s38
    have t9 := t3.same s28
    have hg1 := s28 _ _ (b3 _ _ ((t2.same s1).nt (xs := [.str (Str.ofString "rail"), .int (1 + x + 4 + y)]) upd_same) upd_same)
    have pc : ∀ {H' : Hp} {g : Addr} {b : Bool} {i : Int}, TapeAt c (n + 1 + 1 + 1) H' → H' g = some (.tup [.str (wd b), .int i]) → Dh c H' (.ref g) (.tuple [.str (wd b), .int i]) := fun t h => dh_at t h (Drs.cons (.str _) (Drs.cons (.int _) Drs.nil))
    have ok1 : ∀ (b : Bool) (i : Int), 1 ≤ i → i ≤ 12 → pieceG (.tuple [.str (wd b), .int i]) = true := fun b i h1 h2 => pcD_ok (p := (b, i)) ⟨h1, h2⟩
    refine k _ p _ _ _ _ (((b1.trans b2).trans (.of s1)).trans (b3.trans (.of s28))) t9 upd_same (dh_at t9 (s48 _ _ upd_same) (Drs.cons (pc (b := true) t9 hg1) (Drs.cons (pc (b := false) t9 (s38 _ _ upd_same)) Drs.nil))) (row_mk (by show 1 ≤ 2; decide) (by show 2 ≤ 8; decide) fun y hy => ?_) (dh_at t9 (s8 _ _ upd_same) (Drs.cons (pc (b := true) t9 (s58 _ _ upd_same)) (Drs.cons (pc (b := false) t9 (s68 _ _ upd_same)) (Drs.cons (pc (b := true) t9 (s78 _ _ upd_same)) Drs.nil)))) (row_mk (by show 1 ≤ 3; decide) (by show 3 ≤ 8; decide) fun y hy => ?_)
    · simp only [List.mem_cons, List.not_mem_nil, or_false] at hy
      rcases hy with rfl | rfl
      · exact ok1 _ _ (by omega) (by omega)
      · exact ok1 _ _ (by omega) (by omega)
    · simp only [List.mem_cons, List.not_mem_nil, or_false] at hy
      rcases hy with rfl | rfl | rfl
      · exact ok1 _ _ (by omega) (by omega)
      · exact ok1 _ _ (by decide) (by decide)
      · exact ok1 _ _ (by decide) (by decide)
end
end RL

set_option maxHeartbeats 4000000
namespace RL
open PySem L2 PySem.Spec PyProof.Rows
def IntS (n : Nat) (d : PyData) : Prop := ∃ i : Int, d = .int i ∧ Sm n i
theorem IntS.up {n m : Nat} {d : PyData} (h : IntS n d) (l : n ≤ m) : IntS m d := by
  obtain ⟨i, e, z⟩ := h
  exact ⟨i, e, z.mono l⟩
theorem drs_ints {H : Hp} : ∀ js : List Int, Drs H (js.map V.int) (js.map PyData.int)
  | [] => Drs.nil
  | j :: js => Drs.cons (.int j) (drs_ints js)
theorem sm_one (n : Nat) : Sm n.succ 1 := by
  unfold Sm
  exact Nat.one_lt_two_pow (by omega)
theorem z01 : Sm 3900 0 ∧ Sm 3900 1 := ⟨by unfold Sm; decide +kernel, by unfold Sm; decide +kernel⟩
theorem pl_ints {es : List PyData} (h : ∀ x ∈ es, IntS 100 x) (l : es.length ≤ 100) : PlOk (.tuple es) := by
  refine ⟨.inl (hda_of fun x hx => ?_), ?_, decide_eq_true l⟩
  · obtain ⟨i, rfl, _⟩ := h x hx
    rfl
  match es, h with
  | [], _ => exact z01
  | [_], _ => exact z01
  | _ :: _ :: _ :: _, _ => exact z01
  | [a, b], h =>
    obtain ⟨i, rfl, hi⟩ := h a (by simp)
    obtain ⟨j, rfl, hj⟩ := h b (by simp)
    exact ⟨hi.mono (by decide), hj.mono (by decide)⟩
def spTold : Sp := fun vs H Q _ => ∃ (c : Addr) (n : Nat) (rv mv : V) (rd md : PyData), vs = [.ref c, rv, mv] ∧ TapeAt c n H ∧ n + 3 ≤ 1000000 ∧ Dh c H rv rd ∧ rowG rd = true ∧ Dh c H mv md ∧ rowG md = true ∧
  ∀ H' v d, But c H H' → TapeAt c (n + 3) H' → Dh c H' v d → PlOk d → Q v H'
section
variable {P : Program} {w : World} {K : PySem.W.Frag} {mg : Str → Option Value} {base : Heap} {tG t1 t3 tC tK : Tok} {aO aW aCh : Addr}
abbrev s_law_told_limit : Stmt := top 94
theorem sc_law_told_limit : FnScope ["_law_tape", "_law_row", "_law_mate", "_law_due_here", "_law_way", "_law_by", "_law_place", "_law_part"] ["_law_tape", "_law_row", "_law_mate"] (defScope s_law_told_limit) := ⟨rfl, rfl, rfl, by decide +kernel, rfl, by decide +kernel, by decide +kernel⟩

theorem ok_told {f : Addr} {fd : FuncData} (F : Fun K "_law_told_limit" "_law_told_limit" s_law_told_limit f fd) (T : TxtA K mg w tG t1 t3 tC tK aO aW aCh) (D_law_pick : Df P w K mg base 1 "_law_pick" ["_law_tape", "_law_many"] spDraw) (D_law_limit : Df P w K mg base 2 "_law_limit" ["_law_row"] spLLim) : FnOk P w K mg base CX0 3 f fd ["_law_tape", "_law_row", "_law_mate"] spTold := by
  refine F.ok sc_law_told_limit (fun vs H Q E h => ?_) (fun cdv A outer s H vs Q E hr h => ?_)
  · obtain ⟨c, n, rv, mv, rd, md, rfl, _⟩ := h
    rfl
  · obtain ⟨c, n, rv, mv, rd, md, rfl, ht, hn, hrd, hrg, hmd, hmg, k⟩ := h
    refine ⟨_, (pss_cons (ps_par (by rfl) sc_law_told_limit.nd (i := 3) (j := 4) rfl rfl (by decide) rfl rfl (pa_cons (pe_df D_law_limit (hr.mono (by decide)) (by rfl) (pa_cons (pv 1) pa_nil)) (pa_cons (pe_df D_law_pick (hr.mono (by decide)) (by rfl) (pa_cons (pv 0) (pa_cons pe_int pa_nil))) pa_nil)) (by rfl))
      (pss_cons (ps_if (pt_cmpR op_lt (pv 4) pe_int (nomark _)) (pss_one (ps_ret (pv 3))) pss_nil)
      (pss_cons (ps_if (pt_cmpR op_eq (pv 4) pe_int (nomark _)) (pss_one (ps_ret (pe_df D_law_limit (hr.mono (by decide)) (by rfl) (pa_cons (pv 2) pa_nil)))) pss_nil)
      (pss_cons (ps_asg (pe_tup (pa_cons (pe_op op_add pe_int (pe_df D_law_pick (hr.mono (by decide)) (by rfl) (pa_cons (pv 0) (pa_cons pe_int pa_nil)))) (pa_cons (pe_df D_law_pick (hr.mono (by decide)) (by rfl) (pa_cons (pv 0) (pa_cons (pe_callB call_len_seq (by rfl) T.len (by decide +kernel) (pa_cons (pv 3) pa_nil)) pa_nil))) pa_nil))) (pg_tup rfl (pgs_cons (pg_name (i := 5) sc_law_told_limit.nd rfl (.inr rfl)) (pgs_cons (pg_name (i := 6) sc_law_told_limit.nd rfl (.inl rfl)) pgs_nil))))
      (pss_cons (ps_if (pt_cmpR op_eq (pv 4) pe_int (nomark _)) (pss_one (ps_ret (pe_callTy call_tuple_of (by rfl) T.tuple_ (by decide +kernel) (pa_cons (pe_lc (own := [("_law_part", 7)]) (g := gName 7) (tt := tYes) rfl sc_law_told_limit.nd (pi_tup (pv 3)) (blkOk_by (N := ["_law_tape", "_law_row", "_law_mate", "_law_due_here", "_law_way", "_law_by", "_law_place", "_law_part"]) (sc := defScope s_law_told_limit) (by decide +kernel)) (fun _ _ _ _ _ => pg_name (i := 7) sc_law_told_limit.nd rfl (Or.inl rfl)) (fun _ _ _ _ _ => pts_nil) (fun _ _ _ _ _ => (pe_op op_mulX (pv 5) (pv 7)))) pa_nil)))) pss_nil)
      (pss_one (ps_ret (pe_op op_catB (pe_op op_catB (pe_slice sl_tupB (pv 3) po_none (po_some (pv 6))) (pe_tup (pa_cons (pe_op op_add (pe_ix ix_tup (pv 3) (pv 6) (fun _ _ => rfl)) pe_int) pa_nil))) (pe_slice sl_tupB (pv 3) (po_some (pe_op op_add (pv 6) pe_int)) po_none))))))))), ?_⟩
    have limS : ∀ (d : PyData), rowG d = true → ∀ {H : Hp} {v : V}, Dh c H v d → (∀ x ∈ (limI (rowOf d)).map PyData.int, IntS 80 x) ∧ ((limI (rowOf d)).map PyData.int).length ≤ 3 ∧ 1 ≤ ((limI (rowOf d)).map PyData.int).length := fun d g {H v} h => by
      obtain ⟨_, _, _, _, _, hok, _, l8⟩ := row_at (Dh.dr h) g
      refine ⟨fun x hx => ?_, ?_, ?_⟩
      · obtain ⟨i, hi, rfl⟩ := List.mem_map.mp hx
        exact ⟨i, rfl, lim_small hok l8 i hi⟩
      · rw [List.length_map]
        unfold limI
        split <;> simp
      · rw [List.length_map]
        unfold limI
        split <;> simp
    obtain ⟨i1, i2, i3⟩ := limS rd hrg hrd
    refine ⟨_, rfl, rv, rowOf rd, rfl, row_at hrd.dr hrg, fun H1 dv s1 hdv => ?_⟩
    have t1 := ht.same s1
    have hdv := Dn.tape hdv ht
    rw [lim_ints] at hdv
    generalize (limI (rowOf rd)).map PyData.int = es at *
    obtain ⟨a, us, rfl, ha0, hus⟩ := Dr.tuple hdv
    obtain ⟨nac, ha1⟩ := hid_get ha0
    have hus1 : Dhs c H1 us es := hus
    have lus : us.length = es.length := hus1.1
    refine ⟨_, rfl, c, _, 6, rfl, t1, by omega, by decide, sm_p (by decide) (by decide), fun H2 way b2 t2 w0 w1 => ?_⟩
    refine ⟨_, _, rfl, ?_⟩
    have b12 := (But.of s1).trans b2
    have ha2 := b2 _ _ nac ha1
    have hus2 := hus1.but b2
    refine ⟨_, rfl, _, _, rfl, rfl, _, rfl, ite2 (fun _ => ?_) (fun _ => ?_)⟩
    · exact ⟨_, rfl, k _ _ _ b12 (t2.le (by omega)) (dh_at t2 ha2 hus2) (pl_ints (fun x hx => (i1 x hx).up (by decide)) (by omega))⟩
    refine ⟨_, rfl, rfl, _, rfl, ite2 (fun _ => ?_) (fun _ => ?_)⟩
    · obtain ⟨j1, j2, _⟩ := limS md hmg hmd
      refine ⟨_, rfl, mv, rowOf md, rfl, row_at (hmd.but b12).dr hmg, fun H3 ev s3 hev => ?_⟩
      have hev := Dn.tape hev t2
      rw [lim_ints] at hev
      exact k _ _ _ (b12.trans (.of s3)) ((t2.same s3).le (by omega)) hev (pl_ints (fun x hx => (j1 x hx).up (by decide)) (by omega))
    refine ⟨_, rfl, c, _, 3, rfl, t2, by omega, by decide, sm_p (by decide) (by decide), fun H3 x b3 t3 x0 x1 => ?_⟩
    have ha3 := b3 _ _ nac ha2
    refine ⟨_, _, rfl, rfl, _, rfl, _, rfl, a, _, rfl, .inr (SqT.of ha3), c, _, _, rfl, t3, by omega, by omega, sm_p (by omega) (by decide), fun H4 y b4 t4 y0 y1 => ?_⟩
    obtain ⟨iy, hiy, rfl⟩ : ∃ i : Nat, i < es.length ∧ y = (i : Int) := ⟨y.toNat, by omega, (Int.toNat_of_nonneg y0).symm⟩
    have b14 := (b12.trans b3).trans b4
    have ha4 := b4 _ _ nac ha3
    have hus4 := (hus2.but b3).but b4
    refine ⟨(by show 2 ≤ sizeLine; decide), fun p np => ⟨p, _, rfl, SqT.of upd_same, rfl, _, _, rfl, _, _, rfl, rfl, ?_⟩⟩
    have s5 := same_upd (o := .tup [.int (2 + x), .int (iy : Int)]) np
    generalize upd H4 p (.tup [.int (2 + x), .int (iy : Int)]) = H5 at *
    have t5 := t4.same s5
    have ha5 := s5 _ _ ha4
    have hus5 := hus4.same s5
    have b15 := b14.trans (.of s5)
    have sb : Sm 3 (2 + x) := by
      unfold Sm
      have : (2 : Nat) ^ 3 = 8 := by decide
      omega
    refine ⟨_, rfl, rfl, _, rfl, ite2 (fun _ => ?_) (fun _ => ?_)⟩
    · refine ⟨_, rfl, a, rfl, ⟨_, SqT.of ha5⟩, fun D hD => ?_⟩
      refine lc_tup (K := K) (a := a) (xs := us) (fun i H' => Same H5 H' ∧ ∃ js : List Int, H' D = some (.lst (js.map V.int)) ∧ js.length = i ∧ ∀ j ∈ js, Sm 100 j) ⟨same_upd hD, [], upd_same, rfl, by simp⟩ (fun i H' _ h => SqT.of (h.1 _ _ ha5)) ?_ ?_
      · rintro i v H' hyi ⟨sD, js, hDi, lj, hj⟩
        obtain ⟨d, hd', hdp⟩ := Drs.atv hus5 hyi
        obtain ⟨z, rfl, hz⟩ := i1 d (List.mem_of_getElem? hd')
        cases (Dh.dr hdp).toInt
        have il : i < us.length := (List.getElem?_eq_some_iff.mp hyi).1
        refine ⟨rfl, ?_⟩
        unfold tYes
        refine iteT ?_
        refine ⟨_, rfl, _, rfl, _, _, rfl, rfl, mx sb hz, _, hDi, ?_, ?_, js ++ [(2 + x) * z], ?_, ?_, ?_⟩
        · rw [List.length_map]
          exact small1000 (by omega)
        · intro q o e
          rw [upd_ne (ne_of_none e hD)]
          exact sD _ _ e
        · rw [upd_same, List.map_append]
          rfl
        · rw [List.length_append, lj]
          rfl
        · intro j hjj
          rcases List.mem_append.mp hjj with hjj | hjj
          · exact hj j hjj
          · rw [List.mem_singleton.mp hjj]
            exact (sb.mul hz).mono (by decide)
      · rintro H' ⟨sD, js, hDi, lj, hj⟩
        refine ⟨D, _, rfl, .inl ⟨SqL.of hDi, fun q nq => ?_⟩⟩
        have sq := same_upd (o := .tup (js.map V.int)) nq
        have t6 := t5.same sD
        refine k _ (.ref q) (.tuple (js.map PyData.int)) (b15.trans (.of (sD.trans sq))) (t6.same sq) (Dh.new t6 nq (drs_ints js)) (pl_ints (fun w hw => ?_) (by rw [List.length_map]; omega))
        obtain ⟨j, hj', rfl⟩ := List.mem_map.mp hw
        exact ⟨j, rfl, hj j hj'⟩
    · have c1 : cutV us none (some (iy : Int)) = us.take iy := cutT (by omega)
      have c2 : cutV us (some ((iy : Int) + 1)) none = us.drop (iy + 1) := cutD (i := iy + 1) (by omega)
      obtain ⟨d, hd⟩ : ∃ d, es[iy]? = some d := ⟨_, List.getElem?_eq_getElem hiy⟩
      obtain ⟨xv, hxv, hdx⟩ := Drs.at_ hus5 hd
      obtain ⟨z, rfl, hz⟩ := i1 d (List.mem_of_getElem? hd)
      cases (Dh.dr hdx).toInt
      have tk : (us.take iy).length ≤ 3 := by
        rw [List.length_take]
        omega
      have dk : (us.drop (iy + 1)).length ≤ 3 := by
        rw [List.length_drop]
        omega
      refine ⟨_, rfl, _, rfl, _, rfl, a, us, rfl, ha5, fun H6 p6 s6 hp6 => ?_⟩
      rw [c1] at hp6
      refine ⟨_, rfl, _, rfl, a, _, _, _, rfl, rfl, SqT.of (s6 _ _ ha5), atI_nat hxv, _, _, rfl, rfl, (by show 1 ≤ sizeLine; decide), fun q nq => ?_⟩
      have sq := same_upd (o := .tup [.int (z + 1)]) nq
      refine ⟨p6, q, _, _, rfl, rfl, sq _ _ hp6, upd_same, (by show _ + 1 ≤ 1000; omega), fun H7 w s7 hw => ?_⟩
      have sA := (s6.trans sq).trans s7
      refine ⟨_, rfl, _, rfl, _, _, rfl, rfl, _, rfl, a, us, rfl, sA _ _ ha5, fun H8 v s8 hv => ?_⟩
      rw [c2] at hv
      refine ⟨w, v, _, _, rfl, rfl, s8 _ _ hw, hv, (by rw [List.length_append]; show _ + 1 + _ ≤ 1000; omega), fun H9 r9 s9 hr9 => ?_⟩
      have sB := (sA.trans s8).trans s9
      have t9 := t5.same sB
      refine k _ _ _ (b15.trans (.of sB)) t9 (dh_at t9 hr9 (Drs.app (Drs.app (Drs.take (hus5.same sB) iy) (Drs.cons (.int _) Drs.nil)) (Drs.drop (hus5.same sB) (iy + 1)))) (pl_ints (fun w hw => ?_) ?_)
      · rcases List.mem_append.mp hw with hw | hw
        · rcases List.mem_append.mp hw with hw | hw
          · exact (i1 w (List.mem_of_mem_take hw)).up (by decide)
          · rw [List.mem_singleton.mp hw]
            exact ⟨z + 1, rfl, (hz.add ((sm_one 79).mono (by decide))).mono (by decide)⟩
        · exact (i1 w (List.mem_of_mem_drop hw)).up (by decide)
      · simp only [List.length_append, List.length_take, List.length_drop, List.length_singleton]
        omega
end
end RL

set_option maxHeartbeats 4000000
namespace RL
open PySem L2 PySem.Spec PyProof.Rows
/-- a resistance as the draws hold it -/
def LdV (c : Addr) (H : Hp) (v : V) : Prop := ∃ d, Dh c H v d ∧ resG d = true
theorem LdV.but {c : Addr} {H H' : Hp} {v : V} (h : LdV c H v) (b : But c H H') : LdV c H' v := by
  obtain ⟨d, hd, r⟩ := h
  exact ⟨d, hd.but b, r⟩
/-- a row as the draws hold it -/
def RwV (c : Addr) (H : Hp) (v : V) : Prop := ∃ d, Dh c H v d ∧ rowG d = true
theorem RwV.but {c : Addr} {H H' : Hp} {v : V} (h : RwV c H v) (b : But c H H') : RwV c H' v := by
  obtain ⟨d, hd, r⟩ := h
  exact ⟨d, hd.but b, r⟩
theorem pl_pair2 {a b : Int} (ha : Sm 3900 a) (hb : Sm 3900 b) : PlOk (.tuple [.int a, .int b]) := ⟨.inl rfl, ⟨ha, hb⟩, rfl⟩
theorem pl_int2 {a : Int} (ha : Sm 3900 a) : PlOk (.int a) := ⟨.inl rfl, ⟨ha, z01.2⟩, rfl⟩
def spCase : Sp := fun vs H Q _ => ∃ (c : Addr) (n : Nat), vs = [.ref c] ∧ TapeAt c n H ∧ n + 80 ≤ 1000000 ∧
  ∀ H' t ys r s0, But c H H' → TapeAt c (n + 80) H' → H' t = some (.tup ys) → s0 ∈ gK → Dhs c H' ys (.str s0 :: r) → lenOk r → (∀ x ∈ r, PlOk x) → Q (.ref t) H'
section
variable {P : Program} {w : World} {K : PySem.W.Frag} {mg : Str → Option Value} {base : Heap} {tG t1 t3 tC tK : Tok} {aO aW aCh : Addr}
abbrev s_law_case : Stmt := top 95
theorem sc_law_case : FnScope ["_law_tape", "_law_row", "_law_end", "_law_mate", "_law_way", "_law_start", "_law_few", "_law_more", "_law_between"] ["_law_tape"] (defScope s_law_case) := ⟨rfl, rfl, rfl, by decide +kernel, rfl, by decide +kernel, by decide +kernel⟩

theorem ok_case {f : Addr} {fd : FuncData} (F : Fun K "_law_case" "_law_case" s_law_case f fd) (T : TxtA K mg w tG t1 t3 tC tK aO aW aCh) (D_law_some_row : Df P w K mg base 3 "_law_some_row" ["_law_tape", "_law_longest"] spSomeRow) (D_law_near : Df P w K mg base 3 "_law_near" ["_law_tape", "_law_row"] spNear) (D_law_anyload : Df P w K mg base 2 "_law_anyload" ["_law_tape"] spAnyLoad) (D_law_pick : Df P w K mg base 1 "_law_pick" ["_law_tape", "_law_many"] spDraw) (D_law_crossing : Df P w K mg base 2 "_law_crossing" ["_law_tape"] spCross) (D_law_told_limit : Df P w K mg base 3 "_law_told_limit" ["_law_tape", "_law_row", "_law_mate"] spTold) (D_law_after : Df P w K mg base 2 "_law_after" ["_law_row", "_law_pair", "_law_many"] spAfter) (D_law_lowest : Df P w K mg base 1 "_law_lowest" ["_law_top", "_law_bottom"] spPair) : FnOk P w K mg base CX0 4 f fd ["_law_tape"] spCase := by
  refine F.ok sc_law_case (fun vs H Q E h => ?_) (fun cdv A outer s H vs Q E hr h => ?_)
  · obtain ⟨c, n, rfl, _⟩ := h
    rfl
  · obtain ⟨c, n, rfl, ht, hn, k⟩ := h
    refine ⟨_, (C8.pss_cut (ps_asg (pe_df D_law_some_row (hr.mono (by decide)) (by rfl) (pa_cons (pv 0) (pa_cons pe_int pa_nil))) (pg_tup rfl (pgs_cons (pg_name (i := 1) sc_law_case.nd rfl (.inl rfl)) (pgs_cons (pg_name (i := 2) sc_law_case.nd rfl (.inl rfl)) pgs_nil))))
      (C8.pss_cut (ps_par3 (by rfl) sc_law_case.nd (i := 3) (j := 4) (l := 5) rfl rfl rfl (by decide) (by decide) (by decide) rfl rfl rfl (pa_cons (pe_df D_law_near (hr.mono (by decide)) (by rfl) (pa_cons (pv 0) (pa_cons (pv 1) pa_nil))) (pa_cons (pe_df D_law_pick (hr.mono (by decide)) (by rfl) (pa_cons (pv 0) (pa_cons pe_int pa_nil))) (pa_cons (pe_df D_law_anyload (hr.mono (by decide)) (by rfl) (pa_cons (pv 0) pa_nil)) pa_nil))) (by rfl))
      (C8.pss_cut (ps_if (pt_cmpR op_eq (pe_df D_law_pick (hr.mono (by decide)) (by rfl) (pa_cons (pv 0) (pa_cons pe_int pa_nil))) pe_int (nomark _)) (pss_one (ps_asg (pe_df D_law_crossing (hr.mono (by decide)) (by rfl) (pa_cons (pv 0) pa_nil)) (pg_tup rfl (pgs_cons (pg_name (i := 1) sc_law_case.nd rfl (.inl rfl)) (pgs_cons (pg_name (i := 3) sc_law_case.nd rfl (.inl rfl)) pgs_nil))))) (pss_one (ps_if (pt_cmpR op_eq (pe_df D_law_pick (hr.mono (by decide)) (by rfl) (pa_cons (pv 0) (pa_cons pe_int pa_nil))) pe_int (nomark _)) (pss_one (ps_par (by rfl) sc_law_case.nd (i := 1) (j := 3) rfl rfl (by decide) rfl rfl (pa_cons (pv 3) (pa_cons (pv 1) pa_nil)) (by rfl))) pss_nil)))
      (C8.pss_cut (ps_if (pt_cmpR op_eq (pv 4) pe_int (nomark _)) (pss_one (ps_ret (pe_tup (pa_cons pe_str (pa_cons (pv 1) (pa_cons (pv 3) pa_nil)))))) pss_nil)
      (C8.pss_cut (ps_if (pt_cmpR op_eq (pv 4) pe_int (nomark _)) (pss_one (ps_ret (pe_tup (pa_cons pe_str (pa_cons (pv 1) (pa_cons (pv 5) (pa_cons (pe_df D_law_told_limit (hr.mono (by decide)) (by rfl) (pa_cons (pv 0) (pa_cons (pv 1) (pa_cons (pv 3) pa_nil)))) pa_nil))))))) pss_nil)
      (C8.pss_cut (ps_par (by rfl) sc_law_case.nd (i := 6) (j := 7) rfl rfl (by decide) rfl rfl (pa_cons (pe_df D_law_after (hr.mono (by decide)) (by rfl) (pa_cons (pv 1) (pa_cons (pd_tup (pds_cons pd_int (pds_cons pd_int pds_nil))) (pa_cons pe_int pa_nil)))) (pa_cons (pe_df D_law_after (hr.mono (by decide)) (by rfl) (pa_cons (pv 3) (pa_cons (pd_tup (pds_cons pd_int (pds_cons pd_int pds_nil))) (pa_cons pe_int pa_nil)))) pa_nil)) (by rfl))
      (C8.pss_cut (ps_set (i := 8) sc_law_case.nd rfl (.inl rfl) (pe_df D_law_lowest (hr.mono (by decide)) (by rfl) (pa_cons (pe_op op_add (pe_ix ix_tup (pv 6) pe_int (fun _ _ => rfl)) (pe_ix ix_tup (pv 7) pe_int (fun _ _ => rfl))) (pa_cons (pe_op op_add (pe_ix ix_tup (pv 6) pe_int (fun _ _ => rfl)) (pe_ix ix_tup (pv 7) pe_int (fun _ _ => rfl))) pa_nil))))
      (pss_one (ps_ret (pe_tup (pa_cons pe_str (pa_cons (pv 1) (pa_cons (pv 3) (pa_cons (pe_ix ix_list (pe_lst (pa_cons (pv 5) (pa_cons pe_int (pa_cons (pd_tup (pds_cons pd_int (pds_cons pd_int pds_nil))) (pa_cons (pv 8) (pa_cons (pe_tup (pa_cons (pe_op op_add (pe_op op_pow pe_int pe_int) pe_int) (pa_cons pe_int pa_nil))) (pa_cons (pe_tup (pa_cons pe_int (pa_cons (pe_op op_pow pe_int pe_int) pa_nil))) pa_nil))))))) (pe_df D_law_pick (hr.mono (by decide)) (by rfl) (pa_cons (pv 0) (pa_cons pe_int pa_nil))) (fun _ _ => rfl)) pa_nil)))))))))))))), ?_⟩
    refine ⟨fun σ' H' => ∃ rv rd ev, σ' = [some (.ref c), some rv, some ev, none, none, none, none, none, none] ∧ But c H H' ∧ TapeAt c (n + 20) H' ∧ Dh c H' rv rd ∧ rowG rd = true ∧ lnD rd ≤ 5, ?_, ?_⟩
    · refine ⟨_, rfl, c, n, 5, rfl, ht, by omega, by decide, by decide, fun H1 p v d ev b1 t1 hp hd hg hl he => ?_⟩
      refine ⟨p, _, rfl, SqT.of hp, rfl, _, _, rfl, _, _, rfl, rfl, ?_⟩
      exact ⟨v, d, ev, rfl, b1, t1, hd, hg, by omega⟩
    rintro σ1 H1 ⟨rv, rd, ev, rfl, b1, t1, hr1, hg, hl⟩
    refine ⟨fun σ' H' => ∃ mv lv, ∃ way : Int, σ' = [some (.ref c), some rv, some ev, some mv, some (.int way), some lv, none, none, none] ∧ But c H H' ∧ TapeAt c (n + 65) H' ∧ RwV c H' rv ∧ RwV c H' mv ∧ LdV c H' lv, ?_, ?_⟩
    · refine ⟨_, rfl, _, rfl, c, _, rv, rd, rfl, t1, by omega, hr1, hg, hl, fun H2 mv md b2 t2 hm hmg => ?_⟩
      refine ⟨_, rfl, c, _, 3, rfl, t2, by omega, by decide, sm_p (by decide) (by decide), fun H3 way b3 t3 w0 w1 => ?_⟩
      refine ⟨_, rfl, c, _, rfl, t3, by omega, fun H4 lv ld b4 t4 hl4 hg4 => ?_⟩
      exact ⟨_, _, _, rfl, mv, lv, way, rfl, b1.trans (b2.trans (b3.trans b4)), t4, ⟨rd, hr1.but (b2.trans (b3.trans b4)), hg⟩, ⟨md, hm.but (b3.trans b4), hmg⟩, ⟨ld, hl4, hg4⟩⟩
    rintro σ2 H2 ⟨mv, lv, way, rfl, b2, t2, hr2, hm2, hl2⟩
    refine ⟨fun σ' H' => ∃ rv mv, σ' = [some (.ref c), some rv, some ev, some mv, some (.int way), some lv, none, none, none] ∧ But c H H' ∧ TapeAt c (n + 69) H' ∧ RwV c H' rv ∧ RwV c H' mv ∧ LdV c H' lv, ?_, ?_⟩
    · refine ⟨_, rfl, c, _, 4, rfl, t2, by omega, by decide, sm_p (by decide) (by decide), fun H3 j b3 t3 j0 j1 => ?_⟩
      refine ⟨rfl, _, rfl, ite2 (fun _ => ?_) (fun _ => ?_)⟩
      · refine ⟨_, rfl, c, _, rfl, t3, by omega, fun H4 p v u d e b4 t4 hp hd hdg hu hug => ?_⟩
        refine ⟨p, _, rfl, SqT.of hp, rfl, _, _, rfl, _, _, rfl, rfl, ?_⟩
        exact ⟨v, u, rfl, b2.trans (b3.trans b4), t4, ⟨d, hd, hdg⟩, ⟨e, hu, hug⟩, hl2.but (b3.trans b4)⟩
      · refine ⟨_, rfl, c, _, 2, rfl, t3, by omega, by decide, sm_p (by decide) (by decide), fun H4 j b4 t4 j0 j1 => ?_⟩
        have b34 := b3.trans b4
        refine ⟨rfl, _, rfl, ite2 (fun _ => ?_) (fun _ => ⟨rv, mv, rfl, b2.trans b34, t4.le (by omega), hr2.but b34, hm2.but b34, hl2.but b34⟩)⟩
        exact ⟨_, rfl, _, rfl, _, _, rfl, mv, rv, rfl, b2.trans b34, t4.le (by omega), hm2.but b34, hr2.but b34, hl2.but b34⟩
    rintro σ3 H3 ⟨rv, mv, rfl, b3, t3, hr3, hm3, hl3⟩
    have give : ∀ {H' : Hp} {t : Addr} {ys : List V} {r : List PyData} {s0 : Str}, But c H3 H' → TapeAt c (n + 80) H' → H' t = some (.tup ys) → s0 ∈ gK → Dhs c H' ys (.str s0 :: r) → lenOk r → (∀ x ∈ r, PlOk x) → Q (.ref t) H' := fun b t h gs hy l hp => k _ _ _ _ _ (b3.trans b) t h gs hy l hp
    obtain ⟨rd, hrd, hrg⟩ := id hr3
    obtain ⟨md, hmd, hmg⟩ := id hm3
    obtain ⟨ld, hld, hlg⟩ := id hl3
    refine ⟨fun σ' H' => σ' = [some (.ref c), some rv, some ev, some mv, some (.int way), some lv, none, none, none] ∧ H' = H3, ?_, ?_⟩
    · refine ⟨_, rfl, rfl, _, rfl, ite2 (fun _ => ?_) (fun _ => ⟨rfl, rfl⟩)⟩
      refine ⟨_, rfl, _, rfl, (by show 3 ≤ sizeLine; decide), fun t nt => ?_⟩
      have st := same_upd (o := .tup [.str (Str.ofString "never"), rv, mv]) nt
      refine give (.of st) ((t3.same st).le (by omega)) upd_same List.mem_cons_self (Drs.cons (.str _) (Drs.cons (hrd.same st) (Drs.cons (hmd.same st) Drs.nil))) ⟨by show 2 ≤ 2; decide, by show 2 ≤ 3; decide⟩ (fun x hx => ?_)
      simp only [List.mem_cons, List.not_mem_nil, or_false] at hx
      rcases hx with rfl | rfl
      · exact row_pl hrg
      · exact row_pl hmg
    rintro σ4 H4 ⟨rfl, rfl⟩
    refine ⟨fun σ' H' => σ' = [some (.ref c), some rv, some ev, some mv, some (.int way), some lv, none, none, none] ∧ H' = H4, ?_, ?_⟩
    · refine ⟨_, rfl, rfl, _, rfl, ite2 (fun _ => ?_) (fun _ => ⟨rfl, rfl⟩)⟩
      refine ⟨_, rfl, _, rfl, _, rfl, _, rfl, _, rfl, c, _, rv, mv, rd, md, rfl, t3, by omega, hrd, hrg, hmd, hmg, fun H5 tv td b5 t5 htd htp => ?_⟩
      refine ⟨(by show 4 ≤ sizeLine; decide), fun t nt => ?_⟩
      have st := same_upd (o := .tup [.str (Str.ofString "limit"), rv, lv, tv]) nt
      have bb := b5.trans (.of st)
      refine give bb ((t5.same st).le (by omega)) upd_same (List.mem_cons_of_mem _ (List.mem_cons_of_mem _ List.mem_cons_self)) (Drs.cons (.str _) (Drs.cons (hrd.but bb) (Drs.cons (hld.but bb) (Drs.cons (htd.same st) Drs.nil)))) ⟨by show 2 ≤ 3; decide, by show 3 ≤ 3; decide⟩ (fun x hx => ?_)
      simp only [List.mem_cons, List.not_mem_nil, or_false] at hx
      rcases hx with rfl | rfl | rfl
      · exact row_pl hrg
      · exact res_pl hlg
      · exact htp
    rintro σ5 H5 ⟨rfl, rfl⟩
    have hrow := row_at hrd.dr hrg
    obtain ⟨_, _, _, _, _, hok, _, l8⟩ := id hrow
    have hmrow := row_at hmd.dr hmg
    obtain ⟨_, _, _, _, _, hok2, _, l82⟩ := id hmrow
    have z0 : Sm 40 0 ∧ Sm 40 1 := ⟨by unfold Sm; decide, by unfold Sm; decide⟩
    have p01 : Pos2 (0, 1) := ⟨by decide, by decide, .inr (by decide)⟩
    have fit : ∀ {r : List Pc}, RowOk r → r.length ≤ 8 → Pos2 (low (appN (matR r) (Int.toNat 60) (0, 1))) ∧ Sm 1900 (low (appN (matR r) (Int.toNat 60) (0, 1))).1 ∧ Sm 1900 (low (appN (matR r) (Int.toNat 60) (0, 1))).2 := fun {r} h l => by
      have ap := appN_pos h p01 (Int.toNat 60)
      obtain ⟨w1, w2⟩ := appN_sm (e := (0, 1)) h l z0.1 z0.2 (Int.toNat 60)
      have aw := low_sm ap w1 w2
      exact ⟨low_pos ap, aw.1.mono (by decide), aw.2.mono (by decide)⟩
    refine ⟨fun σ' H' => ∃ p q e g, σ' = [some (.ref c), some rv, some ev, some mv, some (.int way), some lv, some (.ref p), some (.ref q), none] ∧ Same H5 H' ∧ PairAt H' p e ∧ PairAt H' q g ∧ (Pos2 e ∧ Sm 1900 e.1 ∧ Sm 1900 e.2) ∧ (Pos2 g ∧ Sm 1900 g.1 ∧ Sm 1900 g.2), ?_, ?_⟩
    · refine ⟨_, rfl, ?_⟩
      intro H6 v6 s6 h6
      obtain ⟨p6, rfl, hp6⟩ := lit_pair h6
      refine ⟨rv, p6, rowOf rd, (0, 1), 60, rfl, hrow.same s6, hp6, p01, z0.1.mono (by decide), z0.2.mono (by decide), by decide, by decide, fun H7 p s7 np hp => ?_⟩
      have s57 := s6.trans s7
      refine ⟨_, rfl, ?_⟩
      intro H8 v8 s8 h8
      obtain ⟨p8, rfl, hp8⟩ := lit_pair h8
      refine ⟨mv, p8, rowOf md, (0, 1), 60, rfl, hmrow.same (s57.trans s8), hp8, p01, z0.1.mono (by decide), z0.2.mono (by decide), by decide, by decide, fun H9 q s9 nq hq => ?_⟩
      exact ⟨_, _, rfl, p, q, _, _, rfl, (s57.trans s8).trans s9, (s8.trans s9) _ _ hp, hq, fit hok l8, fit hok2 l82⟩
    rintro σ6 H6 ⟨p, q, e, g, rfl, s6, hp, hq, ⟨poe, e1, e2⟩, pog, g1, g2⟩
    have ps : Pos2 (e.1 + g.1, e.2 + g.2) := by
      have := poe.1; have := poe.2.1; have := poe.2.2; have := pog.1; have := pog.2.1
      unfold Pos2
      dsimp only
      omega
    refine ⟨fun σ' H' => ∃ b f, σ' = [some (.ref c), some rv, some ev, some mv, some (.int way), some lv, some (.ref p), some (.ref q), some (.ref b)] ∧ Same H6 H' ∧ PairAt H' b f ∧ Sm 1901 f.1 ∧ Sm 1901 f.2, ?_, ?_⟩
    · refine ⟨_, rfl, p, _, _, _, rfl, rfl, SqT.of hp, atI_nat (j := 0) rfl, _, rfl, q, _, _, _, rfl, rfl, SqT.of hq, atI_nat (j := 0) rfl, _, _, rfl, rfl, ?_⟩
      refine ⟨_, rfl, p, _, _, _, rfl, rfl, SqT.of hp, atI_nat (j := 1) rfl, _, rfl, q, _, _, _, rfl, rfl, SqT.of hq, atI_nat (j := 1) rfl, _, _, rfl, rfl, ?_⟩
      have w1 := e1.add g1
      have w2 := e2.add g2
      refine ⟨_, _, rfl, ps, w1.mono (by decide), w2.mono (by decide), fun H7 b s7 nb hb => ?_⟩
      have lw := low_sm ps w1 w2
      exact ⟨b, _, rfl, s7, hb, lw.1, lw.2⟩
    rintro σ7 H7 ⟨b, f, rfl, s7, hb, f1, f2⟩
    have s57 := s6.trans s7
    have t7 := t3.same s57
    refine ⟨_, rfl, _, rfl, _, rfl, ?_⟩
    intro H8 v8 s8 h8
    obtain ⟨p8, rfl, hp8⟩ := lit_pair h8
    refine ⟨_, rfl, _, _, rfl, rfl, ⟨by decide, by decide, by decide⟩, _, _, rfl, rfl, (by show 2 ≤ sizeLine; decide), fun a1 na1 => ?_⟩
    have g1' := same_upd (o := .tup [.int (10 ^ Int.toNat 25 + 1), .int 3]) na1
    refine ⟨_, _, rfl, rfl, ⟨by decide, by decide, by decide⟩, (by show 2 ≤ sizeLine; decide), fun a2 na2 => ?_⟩
    have g2' := same_upd (o := .tup [.int 3, .int (10 ^ Int.toNat 25)]) na2
    refine ⟨(by show 6 ≤ sizeLine; decide), fun l nl => ?_⟩
    have g3' := same_upd (o := .lst [lv, .int 0, .ref p8, .ref b, .ref a1, .ref a2]) nl
    have s23 := g2'.trans g3'
    have s13 := g1'.trans s23
    have s78 := s8.trans s13
    have t8 := t7.same s78
    have nlc : l ≠ c := ((t7.same ((s8.trans g1').trans g2')).ne nl).symm
    refine ⟨_, rfl, c, _, 6, rfl, t8, by omega, by decide, sm_p (by decide) (by decide), fun H9 j b9 t9 j0 j1 => ?_⟩
    have b59 := (But.of (s57.trans s78)).trans b9
    have pr : ∀ {a : Addr} {x y : Int}, (upd (upd (upd H8 a1 (.tup [.int (10 ^ Int.toNat 25 + 1), .int 3])) a2 (.tup [.int 3, .int (10 ^ Int.toNat 25)])) l (.lst [lv, .int 0, .ref p8, .ref b, .ref a1, .ref a2])) a = some (.tup [.int x, .int y]) → Dh c H9 (.ref a) (.tuple [.int x, .int y]) := fun {a x y} h => dh_at t9 (b9 _ _ (t8.nt h) h) (Drs.cons (.int _) (Drs.cons (.int _) Drs.nil))
    obtain ⟨o, od, ho, hod, hop⟩ : ∃ (o : V) (od : PyData), ([lv, .int 0, .ref p8, .ref b, .ref a1, .ref a2] : List V)[j.toNat]? = some o ∧ Dh c H9 o od ∧ PlOk od := by
      have : j = 0 ∨ j = 1 ∨ j = 2 ∨ j = 3 ∨ j = 4 ∨ j = 5 := by omega
      rcases this with rfl | rfl | rfl | rfl | rfl | rfl
      · exact ⟨_, ld, rfl, hld.but b59, res_pl hlg⟩
      · exact ⟨_, .int 0, rfl, .int _, pl_int2 z01.1⟩
      · exact ⟨_, .tuple [.int 1, .int 0], rfl, pr (s13 _ _ hp8), pl_pair2 z01.2 z01.1⟩
      · exact ⟨_, .tuple [.int f.1, .int f.2], rfl, pr (s78 _ _ hb), pl_pair2 (f1.mono (by decide)) (f2.mono (by decide))⟩
      · exact ⟨_, .tuple [.int (10 ^ Int.toNat 25 + 1), .int 3], rfl, pr (s23 _ _ upd_same), pl_pair2 (by unfold Sm; decide +kernel) (by unfold Sm; decide +kernel)⟩
      · exact ⟨_, .tuple [.int 3, .int (10 ^ Int.toNat 25)], rfl, pr (g3' _ _ upd_same), pl_pair2 (by unfold Sm; decide +kernel) (by unfold Sm; decide +kernel)⟩
    have ex : j = (j.toNat : Int) := (Int.toNat_of_nonneg j0).symm
    rw [ex]
    refine ⟨l, _, _, _, rfl, rfl, SqL.of (b9 _ _ nlc upd_same), atI_nat (j := j.toNat) ho, (by show 4 ≤ sizeLine; decide), fun t nt => ?_⟩
    have st := same_upd (o := .tup [.str (Str.ofString "more"), rv, mv, o]) nt
    have bb := b59.trans (.of st)
    refine give bb ((t9.same st).le (by omega)) upd_same (List.mem_cons_of_mem _ List.mem_cons_self) (Drs.cons (.str _) (Drs.cons (hrd.but bb) (Drs.cons (hmd.but bb) (Drs.cons (hod.same st) Drs.nil)))) ⟨by show 2 ≤ 3; decide, by show 3 ≤ 3; decide⟩ (fun x hx => ?_)
    simp only [List.mem_cons, List.not_mem_nil, or_false] at hx
    rcases hx with rfl | rfl | rfl
    · exact row_pl hrg
    · exact row_pl hmg
    · exact hop
end
end RL

set_option maxHeartbeats 4000000
namespace RL
open PySem L2 PySem.Spec PyProof.Rows
/-! ### accepts, as the law sees it -/
def chS (l : List (Addr × Sp)) : Addr → Option Sp := fun f => List.lookup f l
theorem lk_mem : ∀ {l : List (Addr × Sp)}, (l.map Prod.fst).Nodup → ∀ {f : Addr} {sp : Sp}, (f, sp) ∈ l → chS l f = some sp
  | [], _, _, _, h => by cases h
  | (g, tp) :: l, n, f, sp, h => by
    rw [List.map_cons, List.nodup_cons] at n
    unfold chS
    rw [List.lookup_cons]
    rcases List.mem_cons.mp h with h | h
    · cases h
      rw [beq_self_eq_true]
    · have : (f == g) = false := beq_eq_false_iff_ne.mpr fun z => n.1 (by rw [← z]; exact List.mem_map.mpr ⟨_, h, rfl⟩)
      rw [this]
      exact lk_mem n.2 h
theorem lk_of : ∀ {l : List (Addr × Sp)} {f : Addr} {sp : Sp}, chS l f = some sp → (f, sp) ∈ l
  | [], f, sp, h => by cases h
  | (g, tp) :: l, f, sp, h => by
    unfold chS at h
    rw [List.lookup_cons] at h
    cases e : (f == g) with
    | true =>
      rw [e] at h
      cases h
      rw [eq_of_beq e]
      exact List.mem_cons_self
    | false =>
      rw [e] at h
      exact List.mem_cons_of_mem _ (lk_of h)
structure Keys (K : PySem.W.Frag) (aCh fV fM fN fR fL : Addr) : Prop where
  kv : PySem.W.nsIn K aCh "value" = some (some (.ref fV))
  km : PySem.W.nsIn K aCh "most" = some (some (.ref fM))
  kn : PySem.W.nsIn K aCh "never" = some (some (.ref fN))
  ko : PySem.W.nsIn K aCh "more" = some (some (.ref fR))
  kl : PySem.W.nsIn K aCh "limit" = some (some (.ref fL))
  k0 : PySem.W.nsIn K aCh "" = some none
  kx : PySem.W.nsIn K aCh "x" = some none
  kr : PySem.W.nsIn K aCh "rail" = some none
  nd : [fV, fM, fN, fR, fL].Nodup
def spCkF3 : Sp := fun vs H Q _ => ∃ (t : Addr) (ys : List V) (u g : V) (e : PyData), vs = [.ref t, u, g] ∧ H t = some (.tup ys) ∧ Dr H u e ∧ Nd e ∧ numG e = false ∧ Q (.bl false) H
def spCkF : Sp := fun vs H Q _ => ∃ (t : Addr) (ys : List V) (u : V) (e : PyData), vs = [.ref t, u] ∧ H t = some (.tup ys) ∧ Dr H u e ∧ Nd e ∧ numG e = false ∧ Q (.bl false) H
def chL (fV fM fN fR fL : Addr) : List (Addr × Sp) := [(fV, spCkN 4), (fM, spCkF), (fN, spCkB2 nevB), (fR, spCkB2 mreB), (fL, spCkB2 limB)]
theorem chk_no {s : Str} (h : s ∉ gK) (r : List PyData) (e : PyData) : accB (.tuple (.str s :: r)) e = false := by
  show chkB s r e = false
  unfold chkB
  rw [if_neg (fun z => h (by rw [z]; exact List.mem_cons_self)), if_neg (fun z => h (by rw [z]; exact List.mem_cons_of_mem _ List.mem_cons_self)), if_neg (fun z => h (by rw [z]; exact List.mem_cons_of_mem _ (List.mem_cons_of_mem _ List.mem_cons_self)))]
theorem acc_weak {K : PySem.W.Frag} {aCh fV fM fN fR fL : Addr} (ks : Keys K aCh fV fM fN fR fL) (vs : List V) (H : Hp) (Q : VK) (E : XK) (h : spDue vs H Q E) : spAcc K aCh (chS (chL fV fM fN fR fL)) vs H Q E := by
  obtain ⟨v, u, d, e, rfl, hd, hc, hu, hpe, hnn, k⟩ := h
  have nd : ((chL fV fM fN fR fL).map Prod.fst).Nodup := ks.nd
  refine ⟨v, u, d, rfl, hd, fun s r ed => ?_, fun z => ?_⟩
  · subst ed
    have good : ∀ (g : List PyData → PyData → Bool) (f : Addr), chS (chL fV fM fN fR fL) f = some (spCkB2 g) → PySem.W.nsIn K aCh s = some (some (.ref f)) → chkB s r e = g r e → (PySem.W.nsIn K aCh s = some none ∧ Q (.bl false) H) ∨ ∃ f sp, PySem.W.nsIn K aCh s = some (some (.ref f)) ∧ chS (chL fV fM fN fR fL) f = some sp ∧ ∀ H' t ys, Same H H' → H' t = some (.tup ys) → Drs H' ys r → sp [.ref t, u] H' Q (fun _ _ _ => False) := fun g f hS hk hq => by
      refine .inr ⟨f, _, hk, hS, fun H' t ys s' ht hy => ⟨t, ys, r, u, e, rfl, ht, hy, (hc s r rfl).2, hu.mono s', hpe, fun H'' s'' => ?_⟩⟩
      have : Q (.bl (chkB s r e)) H'' := k H'' (s'.trans s'')
      rw [hq] at this
      exact this
    rcases (hc s r rfl).1 with hs | ⟨hs, hl⟩ | hs
    · simp only [gK, List.mem_cons, List.not_mem_nil, or_false] at hs
      rcases hs with rfl | rfl | rfl
      · exact good nevB fN (lk_mem nd (show (fN, spCkB2 nevB) ∈ chL fV fM fN fR fL by simp [chL])) ks.kn (by unfold chkB; rw [if_pos rfl])
      · exact good mreB fR (lk_mem nd (show (fR, spCkB2 mreB) ∈ chL fV fM fN fR fL by simp [chL])) ks.ko (by unfold chkB; rw [if_neg key_ne.2.2, if_pos rfl])
      · exact good limB fL (lk_mem nd (show (fL, spCkB2 limB) ∈ chL fV fM fN fR fL by simp [chL])) ks.kl (by unfold chkB; rw [if_neg key_ne.1, if_neg key_ne.2.1, if_pos rfl])
    · simp only [nK, List.mem_cons, List.not_mem_nil, or_false] at hs
      have hs' : s ∉ gK := by rcases hs with rfl | rfl <;> decide +kernel
      rcases hs with rfl | rfl
      · refine .inr ⟨fV, _, ks.kv, lk_mem nd (show (fV, spCkN 4) ∈ chL fV fM fN fR fL by simp [chL]), fun H' t ys s' ht hy => ⟨t, ys, u, rfl, ht, ?_, ?_⟩⟩
        · rw [hy.1]
          have := hl.2
          omega
        · have := k H' s'
          rw [chk_no hs'] at this
          exact this
      · refine .inr ⟨fM, _, ks.km, lk_mem nd (show (fM, spCkF) ∈ chL fV fM fN fR fL by simp [chL]), fun H' t ys s' ht hy => ⟨t, ys, u, e, rfl, ht, hu.mono s', hpe.1, hnn, ?_⟩⟩
        have := k H' s'
        rw [chk_no hs'] at this
        exact this
    · have := k H (Same.refl _)
      simp only [zK, List.mem_cons, List.not_mem_nil, or_false] at hs
      rcases hs with rfl | rfl | rfl
      · rw [chk_no (by decide +kernel)] at this
        exact .inl ⟨ks.k0, this⟩
      · rw [chk_no (by decide +kernel)] at this
        exact .inl ⟨ks.kx, this⟩
      · rw [chk_no (by decide +kernel)] at this
        exact .inl ⟨ks.kr, this⟩
  · have := k H (Same.refl _)
    have q : accB d e = false := by
      cases d with
      | tuple ds =>
        cases ds with
        | nil => rfl
        | cons x r =>
          cases x with
          | str s => exact absurd ⟨s, r, rfl⟩ z
          | _ => rfl
      | _ => rfl
    rw [q] at this
    exact this
def spRight : Sp := fun vs H Q _ => ∃ c, vs = [.ref c] ∧ TapeAt c 0 H ∧ ∀ H', But c H H' → Q (.bl true) H'
def spLaw (K : PySem.W.Frag) : Sp := fun vs H Q _ => ∃ (a : Addr) (ns : List Int), vs = [.ref a] ∧ SqL K H a (ns.map V.int) ∧ ns.length ≤ 63 ∧ ∀ H', Q (.bl true) H'
theorem dq_bool {K : PySem.W.Frag} {H : Hp} (b : Bool) : Dq K H (.bl b) (.bool b) := .dp (.bl b) rfl
theorem shown_bool (b : Bool) : (PyData.bool b).shown.length ≤ sizeLine := by
  cases b <;> decide +kernel
section
variable {P : Program} {w : World} {K : PySem.W.Frag} {mg : Str → Option Value} {base : Heap} {tG t1 t3 tC tK : Tok} {aO aW aCh : Addr}
theorem ok_ckbF {f : Addr} {fd : FuncData} (F : Fun K "check_bound" "check_bound" s_check_bound f fd) (T : Txt K mg) (D_is_number : Df P w K mg base 3 "is_number" ["value"] (spNumG K)) : FnOk P w K mg base CX0 5 f fd ["places", "certificate", "sense"] spCkF3 := by
  refine F.ok sc_check_bound (fun vs H Q E h => ?_) (fun cdv A outer s H vs Q E hr h => ?_)
  · obtain ⟨t, ys, u, g, e, rfl, _⟩ := h
    rfl
  · obtain ⟨t, ys, u, g, e, rfl, ht, hu, nu, hn, k⟩ := h
    refine ⟨_, (pss_cons (ps_if (PW.pt (pw_or (pt_cmpR op_ne (pe_callB call_len_seq (by rfl) T.len (by decide +kernel) (pa_cons (pv 0) pa_nil)) pe_int (nomark _)) (pw_or1 (pt_not (pt_val (pe_df D_is_number (hr.mono (by decide)) (by rfl) (pa_cons (pv 1) pa_nil))))))) (pss_one (ps_ret pe_bl)) pss_nil)
      pss_never), ?_⟩
    refine ⟨_, rfl, t, _, rfl, .inr (SqT.of ht), rfl, _, rfl, ite2 (fun e1 => k) (fun e1 => ?_)⟩
    refine ⟨_, rfl, u, e, rfl, hu.dq nu, _, rfl, ?_⟩
    rw [hn]
    exact iteT k
theorem ok_ckmF {f : Addr} {fd : FuncData} (F : Fun K "check_most" "check_most" s_check_most f fd) (D_check_bound : Df P w K mg base 5 "check_bound" ["places", "certificate", "sense"] spCkF3) : FnOk P w K mg base CX0 6 f fd ["places", "certificate"] spCkF := by
  refine F.ok sc_check_most (fun vs H Q E h => ?_) (fun cdv A outer s H vs Q E hr h => ?_)
  · obtain ⟨t, ys, u, e, rfl, _⟩ := h
    rfl
  · obtain ⟨t, ys, u, e, rfl, ht, hu, nu, hn, k⟩ := h
    refine ⟨_, (pss_one (ps_ret (pe_df D_check_bound (hr.mono (by decide)) (by rfl) (pa_cons (pv 0) (pa_cons (pv 1) (pa_cons pe_int pa_nil)))))), ?_⟩
    exact ⟨_, rfl, _, rfl, t, ys, u, _, e, rfl, ht, hu, nu, hn, k⟩
def ppB (d : PyData) : Bool := plB d && !numG d
theorem pp_of {ds : List PyData} (h : ds.all ppB = true) {i : Nat} {d : PyData} (hd : ds[i]? = some d) : PlOk d ∧ numG d = false := by
  have := List.all_eq_true.mp h d (List.mem_of_getElem? hd)
  unfold ppB at this
  rw [Bool.and_eq_true, Bool.not_eq_true'] at this
  exact ⟨plB_pl this.1, this.2⟩
abbrev s_law_right : Stmt := top 96
theorem sc_law_right : FnScope ["_law_tape", "_law_turn", "_law_said", "_law_paper"] ["_law_tape"] (defScope s_law_right) := ⟨rfl, rfl, rfl, by decide +kernel, rfl, by decide +kernel, by decide +kernel⟩

theorem ok_right {f : Addr} {fd : FuncData} (F : Fun K "_law_right" "_law_right" s_law_right f fd) (T : TxtA K mg w tG t1 t3 tC tK aO aW aCh) (D_law_case : Df P w K mg base 4 "_law_case" ["_law_tape"] spCase) (D_law_bent : Df P w K mg base 3 "_law_bent" ["_law_tape", "_law_said"] spBent) (D_law_pick : Df P w K mg base 1 "_law_pick" ["_law_tape", "_law_many"] spDraw) (D_accepts : Df P w K mg base 9 "accepts" ["claim", "certificate"] spDue) (D_law_due : Df P w K mg base 3 "_law_due" ["_law_said", "_law_paper"] spDue) : FnG P w K mg base 10 f fd ["_law_tape"] spRight := by
  refine okG F sc_law_right (fun vs H Q E h => ?_) (fun cdv A outer s H vs Q E hg hr h => ?_)
  · obtain ⟨c, rfl, _⟩ := h
    rfl
  · obtain ⟨c, rfl, ht, k⟩ := h
    refine ⟨_, (pss_cons (ps_for PassesOwn.never rfl (pi_range1 rfl T.range (pa_cons pe_int pa_nil)) (pg_name (i := 1) sc_law_right.nd rfl (.inl rfl)) (C8.pss_cut (ps_par (by rfl) sc_law_right.nd (i := 2) (j := 3) rfl rfl (by decide) rfl rfl (pa_cons (pe_df D_law_case (hr.mono (by decide)) (by rfl) (pa_cons (pv 0) pa_nil)) (pa_cons (pd_tup pds_nil) pa_nil)) (by rfl))
      (C8.pss_cut (ps_if (pt_cmpR op_eq (pe_df D_law_pick (hr.mono (by decide)) (by rfl) (pa_cons (pv 0) (pa_cons pe_int pa_nil))) pe_int (nomark _)) (pss_one (ps_set (i := 2) sc_law_right.nd rfl (.inl rfl) (pe_df D_law_bent (hr.mono (by decide)) (by rfl) (pa_cons (pv 0) (pa_cons (pv 2) pa_nil))))) pss_nil)
      (C8.pss_cut (ps_if (pt_cmpR op_eq (pe_df D_law_pick (hr.mono (by decide)) (by rfl) (pa_cons (pv 0) (pa_cons pe_int pa_nil))) pe_int (nomark _)) (pss_one (ps_set (i := 3) sc_law_right.nd rfl (.inl rfl) (pe_ix ix_list (pd_lst (pds_cons pd_non (pds_cons (pd_lst pds_nil) (pds_cons pd_str (pds_cons (pd_tup (pds_cons pd_int pds_nil)) (pds_cons pd_str (pds_cons pd_dict (pds_cons (pd_tup (pds_cons (pd_tup pds_nil) pds_nil)) (pds_cons (pd_tup (pds_cons pd_str (pds_cons pd_int pds_nil))) pds_nil))))))))) (pe_df D_law_pick (hr.mono (by decide)) (by rfl) (pa_cons (pv 0) (pa_cons pe_int pa_nil))) (fun _ _ => rfl)))) pss_nil)
      (pss_one (ps_if (pt_cmpR op_ne (pe_callB (cr_rpK (K := K) hg hr.units) (by rfl) T.repr (by decide +kernel) (pa_cons (pe_df D_accepts (hr.mono (by decide)) (by rfl) (pa_cons (pv 2) (pa_cons (pv 3) pa_nil))) pa_nil)) (pe_callB (cr_rpK (K := K) hg hr.units) (by rfl) T.repr (by decide +kernel) (pa_cons (pe_df D_law_due (hr.mono (by decide)) (by rfl) (pa_cons (pv 2) (pa_cons (pv 3) pa_nil))) pa_nil)) (nomark _)) (pss_one (ps_ret pe_bl)) pss_nil))))))
      (pss_one (ps_ret pe_bl))), ?_⟩
    refine ⟨12, rfl, by decide, by decide, ?_⟩
    refine for_range (lo := 0) (n := Int.toNat 12) (fun i σ H' => (∃ v1 v2 v3, σ = [some (.ref c), v1, v2, v3]) ∧ But c H H' ∧ TapeAt c (90 * i) H') ⟨⟨none, none, none, rfl⟩, But.refl _ _, ht⟩ ?_ ?_
    · rintro i σ H1 hi ⟨⟨v1, v2, v3, rfl⟩, b1, t1⟩
      have hi : i < 12 := hi
      refine ⟨fun σ' H' => ∃ t ys r s0 pv e, σ' = [some (.ref c), some (.int (0 + i)), some (.ref t), some pv] ∧ But c H H' ∧ TapeAt c (90 * i + 80) H' ∧ H' t = some (.tup ys) ∧ s0 ∈ gK ∧ Dhs c H' ys (.str s0 :: r) ∧ lenOk r ∧ (∀ x ∈ r, PlOk x) ∧ Dh c H' pv e ∧ PlOk e ∧ numG e = false, ?_, ?_⟩
      · refine ⟨_, rfl, c, _, rfl, t1, by omega, fun H2 t ys r s0 b2 t2 hS gs hys hl hpl => ?_⟩
        intro H3 v3 s3 hv3
        refine ⟨_, _, rfl, t, ys, r, s0, v3, .tuple [], rfl, b1.trans (b2.trans (.of s3)), t2.same s3, s3 _ _ hS, gs, hys.same s3, hl, hpl, Dn.tape hv3 t2, plB_pl (by decide +kernel), rfl⟩
      rintro σ2 H2 ⟨t, ys, r, s0, pv, e, rfl, b2, t2, hS, gs, hys, hl, hp, hpv, hpe, hnn⟩
      have tc := t2.nt hS
      refine ⟨fun σ' H' => ∃ v d, σ' = [some (.ref c), some (.int (0 + i)), some v, some pv] ∧ But c H2 H' ∧ TapeAt c (90 * i + 84) H' ∧ Dh c H' v d ∧ ClaimOk d, ?_, ?_⟩
      · refine ⟨_, rfl, c, _, 4, rfl, t2, by omega, by decide, sm_p (by decide) (by decide), fun H3 x b3 t3 x0 x1 => ?_⟩
        have hS3 := b3 _ _ tc hS
        refine ⟨rfl, _, rfl, ite2 (fun _ => ?_) (fun _ => ⟨_, _, rfl, b3, t3.le (by omega), dh_at t3 hS3 (hys.but b3), claim_val gs hp⟩)⟩
        refine ⟨_, rfl, _, rfl, c, _, t, ys, r, s0, rfl, gs, t3, by omega, hS3, hys.but b3, hl, hp, fun H5 v d b5 t5 hd hc => ?_⟩
        exact ⟨v, d, rfl, b3.trans b5, t5, hd, hc⟩
      rintro σ3 H3 ⟨v, d, rfl, b3, t3, hd, hc⟩
      have hpv3 := hpv.but b3
      refine ⟨fun σ' H' => ∃ pv e, σ' = [some (.ref c), some (.int (0 + i)), some v, some pv] ∧ But c H3 H' ∧ TapeAt c (90 * i + 86) H' ∧ Dh c H' pv e ∧ PlOk e ∧ numG e = false, ?_, ?_⟩
      · refine ⟨_, rfl, c, _, 8, rfl, t3, by omega, by decide, sm_p (by decide) (by decide), fun H4 x b4 t4 x0 x1 => ?_⟩
        refine ⟨rfl, _, rfl, ite2 (fun _ => ?_) (fun _ => ⟨pv, e, rfl, b4, t4.le (by omega), hpv3.but b4, hpe, hnn⟩)⟩
        intro H5 lv s5 hlv
        obtain ⟨l, ls, rfl, hl0, hls⟩ := Dr.list hlv
        have hl5 := (fresh_get hl0).2
        have hls5 := Dns.tape hls t4
        have t5 := t4.same s5
        refine ⟨_, rfl, c, _, 8, rfl, t5, by omega, by decide, sm_p (by decide) (by decide), fun H6 y b6 t6 y0 y1 => ?_⟩
        have lc : l ≠ c := by
          obtain ⟨_, _, _, hc4, _⟩ := t4
          rintro rfl
          rw [(fresh_get hl0).1] at hc4
          cases hc4
        obtain ⟨dd, hdd⟩ : ∃ dd, (_ : List PyData)[y.toNat]? = some dd := ⟨_, List.getElem?_eq_getElem (l := [.none, .list [], .str (Str.ofString "0"), .tuple [.int 0], .str (Str.ofString ""), .dict [], .tuple [.tuple []], .tuple [.str (Str.ofString "rail"), .int 1]]) (by show y.toNat < 8; omega)⟩
        obtain ⟨yv, hyv, hyd⟩ := Drs.at_ hls5 hdd
        obtain ⟨p1, p2⟩ := pp_of (by decide +kernel) hdd
        have ex : y = (y.toNat : Int) := (Int.toNat_of_nonneg y0).symm
        rw [ex]
        refine ⟨l, _, _, _, rfl, rfl, SqL.of (b6 _ _ lc hl5), atI_nat (j := y.toNat) hyv, ?_⟩
        exact ⟨_, _, rfl, b4.trans ((But.of s5).trans b6), t6, Dh.but hyd b6, p1, p2⟩
      rintro σ5 H5 ⟨pv, e, rfl, b5, t5, hpv5, hpe, hnn⟩
      have hd := hd.but b5
      refine ⟨_, rfl, _, rfl, v, pv, d, e, rfl, hd.dr, hc, hpv5.dr, hpe, hnn, fun H6 s6 => ?_⟩
      refine ⟨_, _, rfl, dq_bool _, rfl, (by show 0 ≤ 40; decide), shown_bool _, ?_⟩
      refine ⟨_, rfl, _, rfl, v, pv, d, e, rfl, (hd.same s6).dr, hc, (hpv5.same s6).dr, hpe, hnn, fun H7 s7 => ?_⟩
      refine ⟨_, _, rfl, dq_bool _, rfl, (by show 0 ≤ 40; decide), shown_bool _, ?_⟩
      refine ⟨rfl, _, rfl, ite2 (fun z => absurd z (ne_selfV _)) (fun _ => ?_)⟩
      have s57 := s6.trans s7
      exact ⟨⟨_, _, _, rfl⟩, ((b2.trans b3).trans b5).trans (.of s57), (t5.same s57).le (by omega)⟩
    · rintro σ H1 ⟨⟨v1, v2, v3, rfl⟩, b1, t1⟩
      exact k _ b1
theorem seq_but {K : PySem.W.Frag} {H H' : Hp} {D a : Addr} {xs : List V} (h : SqL K H a xs) (n : H D = none) (b : But D H H') : SqL K H' a xs := by
  rcases h with (h | ⟨o, h⟩) | h
  · exact .inl (.inl (b _ _ (ne_of_none h n) h))
  · exact .inl (.inr ⟨o, b _ _ (ne_of_none h n) h⟩)
  · exact .inr h
abbrev s_law : Stmt := top 97
theorem sc_law : FnScope ["_law_script", "_law_place"] ["_law_script"] (defScope s_law) := ⟨rfl, rfl, rfl, by decide +kernel, rfl, by decide +kernel, by decide +kernel⟩

theorem ok_law {f : Addr} {fd : FuncData} (F : Fun K "law" "law" s_law f fd) (T : TxtA K mg w tG t1 t3 tC tK aO aW aCh) (D_law_cell : Df P w K mg base 1 "_law_cell" ["_law_script", "_law_place"] (spCell K)) (D_law_src : Df P w K mg base 1 "_law_src" ["_law_number"] spSrc) (D_law_right : DfG P w K mg base 10 "_law_right" ["_law_tape"] spRight) : FnG P w K mg base 11 f fd ["_law_script"] (spLaw K) := by
  refine okG F sc_law (fun vs H Q E h => ?_) (fun cdv A outer s H vs Q E hg hr h => ?_)
  · obtain ⟨a, ns, rfl, _⟩ := h
    rfl
  · obtain ⟨a, ns, rfl, hSg, hlen, k⟩ := h
    refine ⟨_, (pss_one (ps_ret (pe_callB (cr_all rfl) (by rfl) T.all (by decide +kernel) (pa_cons (pe_lc (own := [("_law_place", 1)]) (g := gName 1) (tt := tYes) rfl sc_law.nd (pi_range1 rfl T.range (pa_cons (pe_callB (call_max2 rfl) (by rfl) T.max (by decide +kernel) (pa_cons pe_int (pa_cons (pe_callB (call_min2 rfl) (by rfl) T.min (by decide +kernel) (pa_cons (pe_callB call_len_seq (by rfl) T.len (by decide +kernel) (pa_cons (pv 0) pa_nil)) (pa_cons pe_int pa_nil))) pa_nil))) pa_nil)) (blkOk_by (N := ["_law_script", "_law_place"]) (sc := defScope s_law) (by decide +kernel)) (fun _ _ _ _ _ => pg_name (i := 1) sc_law.nd rfl (Or.inl rfl)) (fun _ _ _ _ _ => pts_nil) (fun _ _ _ _ _ => (pe_dfG D_law_right hg (hr.mono (by decide)) (by rfl) (pa_cons (pe_df D_law_src (hr.mono (by decide)) (by rfl) (pa_cons (pe_df D_law_cell (hr.mono (by decide)) (by rfl) (pa_cons (pv 0) (pa_cons (pv 1) pa_nil))) pa_nil)) pa_nil)))) pa_nil)))), ?_⟩
    refine ⟨_, rfl, a, _, rfl, .inl hSg, _, _, rfl, _, _, rfl, _, rfl, ?_, ?_, fun D hD => ?_⟩
    · split <;> split <;> omega
    · have : (List.map V.int ns).length = ns.length := List.length_map ..
      split <;> split <;> omega
    · refine lc_range (lo := 0) (fun i H' => But D H H' ∧ H' D = some (.lst (List.replicate i (.bl true)))) ⟨But.upd, upd_same⟩ ?_ ?_
      · rintro i H1' hi ⟨bD, hDi⟩
        have hi63 : i ≤ 100 := by
          have : (List.map V.int ns).length = ns.length := List.length_map ..
          split at hi <;> split at hi <;> omega
        refine ⟨rfl, ?_⟩
        unfold tYes
        refine iteT ?_
        refine ⟨_, rfl, _, rfl, a, ns, i, ?_, seq_but hSg hD bD, hi63, hlen, fun H2' j s2 => ?_⟩
        · show [V.ref a, V.int (0 + (i : Int))] = _
          rw [Int.zero_add]
        refine ⟨j, rfl, fun H3' c s3 nc hc => ?_⟩
        have s23 := s2.trans s3
        have hD3 := s23 _ _ hDi
        have nDc : D ≠ c := ne_of_none (s2 _ _ hDi) nc
        refine ⟨c, rfl, hc, fun H4' b4 => ?_⟩
        refine ⟨_, b4 _ _ nDc hD3, ?_, ?_, ?_⟩
        · rw [List.length_replicate]
          exact small1000 (by omega)
        · intro y o ny e
          rw [upd_ne ny]
          have hy1 := s2 _ _ (bD _ _ ny e)
          exact b4 _ _ (ne_of_none hy1 nc) (s3 _ _ hy1)
        · rw [upd_same, List.replicate_succ']
      · rintro H1' ⟨bD, hDn⟩
        refine ⟨D, List.replicate _ true, rfl, SqL.of (by rw [List.map_replicate]; exact hDn), ?_⟩
        have ea : ∀ n : Nat, (List.replicate n true).all id = true := fun n => by
          rw [List.all_eq_true]
          intro z hz
          rw [List.eq_of_mem_replicate hz]
          rfl
        rw [ea]
        exact k _
end
end RL

namespace RL
open PySem L2
set_option maxHeartbeats 4000000 in
theorem all_mk {l : PySem.W.OpenLaw} {w : World} {K : PySem.W.Frag} {h : Heap} {mg : Str → Option Value} (X : K.In h) (G : h.Ns mainGlobals mg) {fa aO aW aCh Ce f_is_integer f_is_integer_within f_is_pair_of_integers f_is_resistance f_pair_of f_sign f_pair_order f_is_number f_is_piece f_is_row f_is_empty f_matrix_and_scale f_matrix_of f_shown_before f_difference f_sign_at f_sign_far_out f_sign_from f_sign_towards f_limit_beside f_never_below f_common_divisor f_lowest_terms f_square_root f_under_root f_equation_of_fraction f_simplest_equation f_Exact_init f_Exact_eq f_Exact_equation pr_Exact_equation f_ladder_limit f_check_value f_check_bound f_check_most f_check_never f_check_more f_check_limit f_accepts f_law_cell f_law_src f_law_pick f_law_lowest f_law_frac f_law_led f_law_after f_law_is_whole f_law_is_load f_law_is_number f_law_is_row f_law_anyrow f_law_anyload f_law_anyodd f_law_sign f_law_never f_law_isqrt f_law_limit f_law_even f_law_some_row f_law_near f_law_crossing f_law_bent f_law_due f_law_told_limit f_law_case f_law_right f_law : Addr}
    {od_is_integer an_is_integer od_is_integer_within an_is_integer_within od_is_pair_of_integers an_is_pair_of_integers od_is_resistance an_is_resistance od_pair_of an_pair_of od_sign an_sign od_pair_order an_pair_order od_is_number an_is_number od_is_piece an_is_piece od_is_row an_is_row od_is_empty an_is_empty od_matrix_and_scale an_matrix_and_scale od_matrix_of an_matrix_of od_shown_before an_shown_before od_difference an_difference od_sign_at an_sign_at od_sign_far_out an_sign_far_out od_sign_from an_sign_from od_sign_towards an_sign_towards od_limit_beside an_limit_beside od_never_below an_never_below od_common_divisor an_common_divisor od_lowest_terms an_lowest_terms od_square_root an_square_root od_under_root an_under_root od_equation_of_fraction an_equation_of_fraction od_simplest_equation an_simplest_equation od_Exact_init an_Exact_init od_Exact_eq an_Exact_eq od_Exact_equation an_Exact_equation od_ladder_limit an_ladder_limit od_check_value an_check_value od_check_bound an_check_bound od_check_most an_check_most od_check_never an_check_never od_check_more an_check_more od_check_limit an_check_limit od_accepts an_accepts od_law_cell an_law_cell od_law_src an_law_src od_law_pick an_law_pick od_law_lowest an_law_lowest od_law_frac an_law_frac od_law_led an_law_led od_law_after an_law_after od_law_is_whole an_law_is_whole od_law_is_load an_law_is_load od_law_is_number an_law_is_number od_law_is_row an_law_is_row od_law_anyrow an_law_anyrow od_law_anyload an_law_anyload od_law_anyodd an_law_anyodd od_law_sign an_law_sign od_law_never an_law_never od_law_isqrt an_law_isqrt od_law_limit an_law_limit od_law_even an_law_even od_law_some_row an_law_some_row od_law_near an_law_near od_law_crossing an_law_crossing od_law_bent an_law_bent od_law_due an_law_due od_law_told_limit an_law_told_limit od_law_case an_law_case od_law_right an_law_right od_law an_law : Option Addr} {sl_is_integer sl_is_integer_within sl_is_pair_of_integers sl_is_resistance sl_pair_of sl_sign sl_pair_order sl_is_number sl_is_piece sl_is_row sl_is_empty sl_matrix_and_scale sl_matrix_of sl_shown_before sl_difference sl_sign_at sl_sign_far_out sl_sign_from sl_sign_towards sl_limit_beside sl_never_below sl_common_divisor sl_lowest_terms sl_square_root sl_under_root sl_equation_of_fraction sl_simplest_equation sl_Exact_init sl_Exact_eq sl_Exact_equation sl_ladder_limit sl_check_value sl_check_bound sl_check_most sl_check_never sl_check_more sl_check_limit sl_accepts sl_law_cell sl_law_src sl_law_pick sl_law_lowest sl_law_frac sl_law_led sl_law_after sl_law_is_whole sl_law_is_load sl_law_is_number sl_law_is_row sl_law_anyrow sl_law_anyload sl_law_anyodd sl_law_sign sl_law_never sl_law_isqrt sl_law_limit sl_law_even sl_law_some_row sl_law_near sl_law_crossing sl_law_bent sl_law_due sl_law_told_limit sl_law_case sl_law_right sl_law : Array (Option Value)}
    {oc_is_integer kV_is_integer dc_is_integer pm_is_integer cd_is_integer ct_is_integer oc_is_integer_within kV_is_integer_within dc_is_integer_within pm_is_integer_within cd_is_integer_within ct_is_integer_within oc_is_pair_of_integers kV_is_pair_of_integers dc_is_pair_of_integers pm_is_pair_of_integers cd_is_pair_of_integers ct_is_pair_of_integers oc_is_resistance kV_is_resistance dc_is_resistance pm_is_resistance cd_is_resistance ct_is_resistance oc_pair_of kV_pair_of dc_pair_of pm_pair_of cd_pair_of ct_pair_of oc_sign kV_sign dc_sign pm_sign cd_sign ct_sign oc_pair_order kV_pair_order dc_pair_order pm_pair_order cd_pair_order ct_pair_order oc_is_number kV_is_number dc_is_number pm_is_number cd_is_number ct_is_number oc_is_piece kV_is_piece dc_is_piece pm_is_piece cd_is_piece ct_is_piece oc_is_row kV_is_row dc_is_row pm_is_row cd_is_row ct_is_row oc_is_empty kV_is_empty dc_is_empty pm_is_empty cd_is_empty ct_is_empty oc_matrix_and_scale kV_matrix_and_scale dc_matrix_and_scale pm_matrix_and_scale cd_matrix_and_scale ct_matrix_and_scale oc_matrix_of kV_matrix_of dc_matrix_of pm_matrix_of cd_matrix_of ct_matrix_of oc_shown_before kV_shown_before dc_shown_before pm_shown_before cd_shown_before ct_shown_before oc_difference kV_difference dc_difference pm_difference cd_difference ct_difference oc_sign_at kV_sign_at dc_sign_at pm_sign_at cd_sign_at ct_sign_at oc_sign_far_out kV_sign_far_out dc_sign_far_out pm_sign_far_out cd_sign_far_out ct_sign_far_out oc_sign_from kV_sign_from dc_sign_from pm_sign_from cd_sign_from ct_sign_from oc_sign_towards kV_sign_towards dc_sign_towards pm_sign_towards cd_sign_towards ct_sign_towards oc_limit_beside kV_limit_beside dc_limit_beside pm_limit_beside cd_limit_beside ct_limit_beside oc_never_below kV_never_below dc_never_below pm_never_below cd_never_below ct_never_below oc_common_divisor kV_common_divisor dc_common_divisor pm_common_divisor cd_common_divisor ct_common_divisor oc_lowest_terms kV_lowest_terms dc_lowest_terms pm_lowest_terms cd_lowest_terms ct_lowest_terms oc_square_root kV_square_root dc_square_root pm_square_root cd_square_root ct_square_root oc_under_root kV_under_root dc_under_root pm_under_root cd_under_root ct_under_root oc_equation_of_fraction kV_equation_of_fraction dc_equation_of_fraction pm_equation_of_fraction cd_equation_of_fraction ct_equation_of_fraction oc_simplest_equation kV_simplest_equation dc_simplest_equation pm_simplest_equation cd_simplest_equation ct_simplest_equation oc_Exact_init kV_Exact_init dc_Exact_init pm_Exact_init cd_Exact_init ct_Exact_init oc_Exact_eq kV_Exact_eq dc_Exact_eq pm_Exact_eq cd_Exact_eq ct_Exact_eq oc_Exact_equation kV_Exact_equation dc_Exact_equation pm_Exact_equation cd_Exact_equation ct_Exact_equation oc_ladder_limit kV_ladder_limit dc_ladder_limit pm_ladder_limit cd_ladder_limit ct_ladder_limit oc_check_value kV_check_value dc_check_value pm_check_value cd_check_value ct_check_value oc_check_bound kV_check_bound dc_check_bound pm_check_bound cd_check_bound ct_check_bound oc_check_most kV_check_most dc_check_most pm_check_most cd_check_most ct_check_most oc_check_never kV_check_never dc_check_never pm_check_never cd_check_never ct_check_never oc_check_more kV_check_more dc_check_more pm_check_more cd_check_more ct_check_more oc_check_limit kV_check_limit dc_check_limit pm_check_limit cd_check_limit ct_check_limit oc_accepts kV_accepts dc_accepts pm_accepts cd_accepts ct_accepts oc_law_cell kV_law_cell dc_law_cell pm_law_cell cd_law_cell ct_law_cell oc_law_src kV_law_src dc_law_src pm_law_src cd_law_src ct_law_src oc_law_pick kV_law_pick dc_law_pick pm_law_pick cd_law_pick ct_law_pick oc_law_lowest kV_law_lowest dc_law_lowest pm_law_lowest cd_law_lowest ct_law_lowest oc_law_frac kV_law_frac dc_law_frac pm_law_frac cd_law_frac ct_law_frac oc_law_led kV_law_led dc_law_led pm_law_led cd_law_led ct_law_led oc_law_after kV_law_after dc_law_after pm_law_after cd_law_after ct_law_after oc_law_is_whole kV_law_is_whole dc_law_is_whole pm_law_is_whole cd_law_is_whole ct_law_is_whole oc_law_is_load kV_law_is_load dc_law_is_load pm_law_is_load cd_law_is_load ct_law_is_load oc_law_is_number kV_law_is_number dc_law_is_number pm_law_is_number cd_law_is_number ct_law_is_number oc_law_is_row kV_law_is_row dc_law_is_row pm_law_is_row cd_law_is_row ct_law_is_row oc_law_anyrow kV_law_anyrow dc_law_anyrow pm_law_anyrow cd_law_anyrow ct_law_anyrow oc_law_anyload kV_law_anyload dc_law_anyload pm_law_anyload cd_law_anyload ct_law_anyload oc_law_anyodd kV_law_anyodd dc_law_anyodd pm_law_anyodd cd_law_anyodd ct_law_anyodd oc_law_sign kV_law_sign dc_law_sign pm_law_sign cd_law_sign ct_law_sign oc_law_never kV_law_never dc_law_never pm_law_never cd_law_never ct_law_never oc_law_isqrt kV_law_isqrt dc_law_isqrt pm_law_isqrt cd_law_isqrt ct_law_isqrt oc_law_limit kV_law_limit dc_law_limit pm_law_limit cd_law_limit ct_law_limit oc_law_even kV_law_even dc_law_even pm_law_even cd_law_even ct_law_even oc_law_some_row kV_law_some_row dc_law_some_row pm_law_some_row cd_law_some_row ct_law_some_row oc_law_near kV_law_near dc_law_near pm_law_near cd_law_near ct_law_near oc_law_crossing kV_law_crossing dc_law_crossing pm_law_crossing cd_law_crossing ct_law_crossing oc_law_bent kV_law_bent dc_law_bent pm_law_bent cd_law_bent ct_law_bent oc_law_due kV_law_due dc_law_due pm_law_due cd_law_due ct_law_due oc_law_told_limit kV_law_told_limit dc_law_told_limit pm_law_told_limit cd_law_told_limit ct_law_told_limit oc_law_case kV_law_case dc_law_case pm_law_case cd_law_case ct_law_case oc_law_right kV_law_right dc_law_right pm_law_right cd_law_right ct_law_right oc_law kV_law dc_law pm_law cd_law ct_law : Value} {tG : Tok} {t1 : Tok} {t3 : Tok} {tC : Tok} {tK : Tok} {aO_k0 aO_k1 : Tok} {od_aO : Option Addr} {nn_aO : Nat} {sl_aO : Array (Option Value)} {aW_k0 aW_k1 : Tok} {od_aW : Option Addr} {nn_aW : Nat} {sl_aW : Array (Option Value)} {tP : Tok} {rest_Exact_equation : List Value} (hfa : mg "law" = some (.ref fa))
    (aG : PySem.W.nsIn K mainGlobals "GREATEST" = some (some (.int 1000000000000 tG)))
    (aOh : PySem.W.nsIn K mainGlobals "MOST_OHMS" = some (some (.int 12 t1)))
    (aJo : PySem.W.nsIn K mainGlobals "MOST_JOINED" = some (some (.int 8 t3)))
    (aMS : PySem.W.nsIn K mainGlobals "MOST_SECTIONS" = some (some (.int 100 tC)))
    (aKi : PySem.W.nsIn K mainGlobals "MOST_KINDS" = some (some (.int 4 tK)))
    (aOp : PySem.W.nsIn K mainGlobals "OPEN" = some (some (.ref aO)))
    (laOp : K.lookup aO = some ⟨.type "tuple", od_aO, .seq #[.int 1 aO_k0, .int 0 aO_k1] nn_aO, sl_aO⟩)
    (aWo : PySem.W.nsIn K mainGlobals "WORDS" = some (some (.ref aW)))
    (laWo : K.lookup aW = some ⟨.type "tuple", od_aW, .seq #[.str (Str.ofString "rail") aW_k0, .str (Str.ofString "rung") aW_k1] nn_aW, sl_aW⟩)
    (aChk : PySem.W.nsIn K mainGlobals "CHECKS" = some (some (.ref aCh)))
    (kr_chk : He.dicW K aCh = some (He.keysIn w.params [("value" : Str), ("most" : Str), ("least" : Str), ("apart" : Str), ("never" : Str), ("more" : Str), ("limit" : Str), ("greatest" : Str), ("least of all" : Str)]))
    (z_len : PySem.W.nsIn K mainGlobals "len" = some none)
    (z_abs : PySem.W.nsIn K mainGlobals "abs" = some none)
    (z_int : PySem.W.nsIn K mainGlobals "int" = some none)
    (z_bool : PySem.W.nsIn K mainGlobals "bool" = some none)
    (z_tuple : PySem.W.nsIn K mainGlobals "tuple" = some none)
    (z_isinstance : PySem.W.nsIn K mainGlobals "isinstance" = some none)
    (z_divmod : PySem.W.nsIn K mainGlobals "divmod" = some none)
    (z_max : PySem.W.nsIn K mainGlobals "max" = some none)
    (z_min : PySem.W.nsIn K mainGlobals "min" = some none)
    (z_range : PySem.W.nsIn K mainGlobals "range" = some none)
    (z_all : PySem.W.nsIn K mainGlobals "all" = some none)
    (z_repr : PySem.W.nsIn K mainGlobals "repr" = some none)
    (z_str : PySem.W.nsIn K mainGlobals "str" = some none)
    (z_enumerate : PySem.W.nsIn K mainGlobals "enumerate" = some none)
    (z_any : PySem.W.nsIn K mainGlobals "any" = some none)
    (z_list : PySem.W.nsIn K mainGlobals "list" = some none)
    (aGP : PySem.W.nsIn K mainGlobals "GREATEST_PART" = some (some (.int 10000000000000000000000000000000000000000 tP)))
    (aCe : PySem.W.nsIn K mainGlobals "Exact" = some (some (.ref Ce)))
    (pgCe : PySem.W.plainGet K Ce Str.empty = true)
    (hdCe : PySem.W.hasDictIn K Ce = true)
    (poCe : PySem.W.plainOver K Ce = true)
    (saCe : PySem.W.findIn K (.ref Ce) "__setattr__" = some (some (.builtin "object.__setattr__")))
    (mkCe : PySem.W.makesIn K Ce = true)
    (kcCe : PySem.W.keepIn K (.ref Ce) = true)
    (nCe_parts : PySem.W.findIn K (.ref Ce) "parts" = some none)
    (kt_E : PySem.W.kitOne K (.type "tuple") (.ref Ce) = some false)
    (nf_E : PySem.W.notFirst K Ce (.type "tuple") = true)
    (a_is_integer : PySem.W.nsIn K mainGlobals "is_integer" = some (some (.ref f_is_integer)))
    (l_is_integer : K.lookup f_is_integer = some ⟨oc_is_integer, od_is_integer, .func (PySem.W.fnOf "is_integer" "is_integer" (defArgs s_is_integer) (defBody s_is_integer) (defScope s_is_integer) .none kV_is_integer dc_is_integer pm_is_integer an_is_integer cd_is_integer ct_is_integer), sl_is_integer⟩)
    (c_is_integer : PySem.W.codeIn K cd_is_integer "is_integer" = true)
    (k_is_integer : PySem.W.keepIn K (.ref f_is_integer) = true)
    (a_is_integer_within : PySem.W.nsIn K mainGlobals "is_integer_within" = some (some (.ref f_is_integer_within)))
    (l_is_integer_within : K.lookup f_is_integer_within = some ⟨oc_is_integer_within, od_is_integer_within, .func (PySem.W.fnOf "is_integer_within" "is_integer_within" (defArgs s_is_integer_within) (defBody s_is_integer_within) (defScope s_is_integer_within) .none kV_is_integer_within dc_is_integer_within pm_is_integer_within an_is_integer_within cd_is_integer_within ct_is_integer_within), sl_is_integer_within⟩)
    (c_is_integer_within : PySem.W.codeIn K cd_is_integer_within "is_integer_within" = true)
    (k_is_integer_within : PySem.W.keepIn K (.ref f_is_integer_within) = true)
    (a_is_pair_of_integers : PySem.W.nsIn K mainGlobals "is_pair_of_integers" = some (some (.ref f_is_pair_of_integers)))
    (l_is_pair_of_integers : K.lookup f_is_pair_of_integers = some ⟨oc_is_pair_of_integers, od_is_pair_of_integers, .func (PySem.W.fnOf "is_pair_of_integers" "is_pair_of_integers" (defArgs s_is_pair_of_integers) (defBody s_is_pair_of_integers) (defScope s_is_pair_of_integers) .none kV_is_pair_of_integers dc_is_pair_of_integers pm_is_pair_of_integers an_is_pair_of_integers cd_is_pair_of_integers ct_is_pair_of_integers), sl_is_pair_of_integers⟩)
    (c_is_pair_of_integers : PySem.W.codeIn K cd_is_pair_of_integers "is_pair_of_integers" = true)
    (k_is_pair_of_integers : PySem.W.keepIn K (.ref f_is_pair_of_integers) = true)
    (a_is_resistance : PySem.W.nsIn K mainGlobals "is_resistance" = some (some (.ref f_is_resistance)))
    (l_is_resistance : K.lookup f_is_resistance = some ⟨oc_is_resistance, od_is_resistance, .func (PySem.W.fnOf "is_resistance" "is_resistance" (defArgs s_is_resistance) (defBody s_is_resistance) (defScope s_is_resistance) .none kV_is_resistance dc_is_resistance pm_is_resistance an_is_resistance cd_is_resistance ct_is_resistance), sl_is_resistance⟩)
    (c_is_resistance : PySem.W.codeIn K cd_is_resistance "is_resistance" = true)
    (k_is_resistance : PySem.W.keepIn K (.ref f_is_resistance) = true)
    (a_pair_of : PySem.W.nsIn K mainGlobals "pair_of" = some (some (.ref f_pair_of)))
    (l_pair_of : K.lookup f_pair_of = some ⟨oc_pair_of, od_pair_of, .func (PySem.W.fnOf "pair_of" "pair_of" (defArgs s_pair_of) (defBody s_pair_of) (defScope s_pair_of) .none kV_pair_of dc_pair_of pm_pair_of an_pair_of cd_pair_of ct_pair_of), sl_pair_of⟩)
    (c_pair_of : PySem.W.codeIn K cd_pair_of "pair_of" = true)
    (k_pair_of : PySem.W.keepIn K (.ref f_pair_of) = true)
    (a_sign : PySem.W.nsIn K mainGlobals "sign" = some (some (.ref f_sign)))
    (l_sign : K.lookup f_sign = some ⟨oc_sign, od_sign, .func (PySem.W.fnOf "sign" "sign" (defArgs s_sign) (defBody s_sign) (defScope s_sign) .none kV_sign dc_sign pm_sign an_sign cd_sign ct_sign), sl_sign⟩)
    (c_sign : PySem.W.codeIn K cd_sign "sign" = true)
    (k_sign : PySem.W.keepIn K (.ref f_sign) = true)
    (a_pair_order : PySem.W.nsIn K mainGlobals "pair_order" = some (some (.ref f_pair_order)))
    (l_pair_order : K.lookup f_pair_order = some ⟨oc_pair_order, od_pair_order, .func (PySem.W.fnOf "pair_order" "pair_order" (defArgs s_pair_order) (defBody s_pair_order) (defScope s_pair_order) .none kV_pair_order dc_pair_order pm_pair_order an_pair_order cd_pair_order ct_pair_order), sl_pair_order⟩)
    (c_pair_order : PySem.W.codeIn K cd_pair_order "pair_order" = true)
    (k_pair_order : PySem.W.keepIn K (.ref f_pair_order) = true)
    (a_is_number : PySem.W.nsIn K mainGlobals "is_number" = some (some (.ref f_is_number)))
    (l_is_number : K.lookup f_is_number = some ⟨oc_is_number, od_is_number, .func (PySem.W.fnOf "is_number" "is_number" (defArgs s_is_number) (defBody s_is_number) (defScope s_is_number) .none kV_is_number dc_is_number pm_is_number an_is_number cd_is_number ct_is_number), sl_is_number⟩)
    (c_is_number : PySem.W.codeIn K cd_is_number "is_number" = true)
    (k_is_number : PySem.W.keepIn K (.ref f_is_number) = true)
    (a_is_piece : PySem.W.nsIn K mainGlobals "is_piece" = some (some (.ref f_is_piece)))
    (l_is_piece : K.lookup f_is_piece = some ⟨oc_is_piece, od_is_piece, .func (PySem.W.fnOf "is_piece" "is_piece" (defArgs s_is_piece) (defBody s_is_piece) (defScope s_is_piece) .none kV_is_piece dc_is_piece pm_is_piece an_is_piece cd_is_piece ct_is_piece), sl_is_piece⟩)
    (c_is_piece : PySem.W.codeIn K cd_is_piece "is_piece" = true)
    (k_is_piece : PySem.W.keepIn K (.ref f_is_piece) = true)
    (a_is_row : PySem.W.nsIn K mainGlobals "is_row" = some (some (.ref f_is_row)))
    (l_is_row : K.lookup f_is_row = some ⟨oc_is_row, od_is_row, .func (PySem.W.fnOf "is_row" "is_row" (defArgs s_is_row) (defBody s_is_row) (defScope s_is_row) .none kV_is_row dc_is_row pm_is_row an_is_row cd_is_row ct_is_row), sl_is_row⟩)
    (c_is_row : PySem.W.codeIn K cd_is_row "is_row" = true)
    (k_is_row : PySem.W.keepIn K (.ref f_is_row) = true)
    (a_is_empty : PySem.W.nsIn K mainGlobals "is_empty" = some (some (.ref f_is_empty)))
    (l_is_empty : K.lookup f_is_empty = some ⟨oc_is_empty, od_is_empty, .func (PySem.W.fnOf "is_empty" "is_empty" (defArgs s_is_empty) (defBody s_is_empty) (defScope s_is_empty) .none kV_is_empty dc_is_empty pm_is_empty an_is_empty cd_is_empty ct_is_empty), sl_is_empty⟩)
    (c_is_empty : PySem.W.codeIn K cd_is_empty "is_empty" = true)
    (k_is_empty : PySem.W.keepIn K (.ref f_is_empty) = true)
    (a_matrix_and_scale : PySem.W.nsIn K mainGlobals "matrix_and_scale" = some (some (.ref f_matrix_and_scale)))
    (l_matrix_and_scale : K.lookup f_matrix_and_scale = some ⟨oc_matrix_and_scale, od_matrix_and_scale, .func (PySem.W.fnOf "matrix_and_scale" "matrix_and_scale" (defArgs s_matrix_and_scale) (defBody s_matrix_and_scale) (defScope s_matrix_and_scale) .none kV_matrix_and_scale dc_matrix_and_scale pm_matrix_and_scale an_matrix_and_scale cd_matrix_and_scale ct_matrix_and_scale), sl_matrix_and_scale⟩)
    (c_matrix_and_scale : PySem.W.codeIn K cd_matrix_and_scale "matrix_and_scale" = true)
    (k_matrix_and_scale : PySem.W.keepIn K (.ref f_matrix_and_scale) = true)
    (a_matrix_of : PySem.W.nsIn K mainGlobals "matrix_of" = some (some (.ref f_matrix_of)))
    (l_matrix_of : K.lookup f_matrix_of = some ⟨oc_matrix_of, od_matrix_of, .func (PySem.W.fnOf "matrix_of" "matrix_of" (defArgs s_matrix_of) (defBody s_matrix_of) (defScope s_matrix_of) .none kV_matrix_of dc_matrix_of pm_matrix_of an_matrix_of cd_matrix_of ct_matrix_of), sl_matrix_of⟩)
    (c_matrix_of : PySem.W.codeIn K cd_matrix_of "matrix_of" = true)
    (k_matrix_of : PySem.W.keepIn K (.ref f_matrix_of) = true)
    (a_shown_before : PySem.W.nsIn K mainGlobals "shown_before" = some (some (.ref f_shown_before)))
    (l_shown_before : K.lookup f_shown_before = some ⟨oc_shown_before, od_shown_before, .func (PySem.W.fnOf "shown_before" "shown_before" (defArgs s_shown_before) (defBody s_shown_before) (defScope s_shown_before) .none kV_shown_before dc_shown_before pm_shown_before an_shown_before cd_shown_before ct_shown_before), sl_shown_before⟩)
    (c_shown_before : PySem.W.codeIn K cd_shown_before "shown_before" = true)
    (k_shown_before : PySem.W.keepIn K (.ref f_shown_before) = true)
    (a_difference : PySem.W.nsIn K mainGlobals "difference" = some (some (.ref f_difference)))
    (l_difference : K.lookup f_difference = some ⟨oc_difference, od_difference, .func (PySem.W.fnOf "difference" "difference" (defArgs s_difference) (defBody s_difference) (defScope s_difference) .none kV_difference dc_difference pm_difference an_difference cd_difference ct_difference), sl_difference⟩)
    (c_difference : PySem.W.codeIn K cd_difference "difference" = true)
    (k_difference : PySem.W.keepIn K (.ref f_difference) = true)
    (a_sign_at : PySem.W.nsIn K mainGlobals "sign_at" = some (some (.ref f_sign_at)))
    (l_sign_at : K.lookup f_sign_at = some ⟨oc_sign_at, od_sign_at, .func (PySem.W.fnOf "sign_at" "sign_at" (defArgs s_sign_at) (defBody s_sign_at) (defScope s_sign_at) .none kV_sign_at dc_sign_at pm_sign_at an_sign_at cd_sign_at ct_sign_at), sl_sign_at⟩)
    (c_sign_at : PySem.W.codeIn K cd_sign_at "sign_at" = true)
    (k_sign_at : PySem.W.keepIn K (.ref f_sign_at) = true)
    (a_sign_far_out : PySem.W.nsIn K mainGlobals "sign_far_out" = some (some (.ref f_sign_far_out)))
    (l_sign_far_out : K.lookup f_sign_far_out = some ⟨oc_sign_far_out, od_sign_far_out, .func (PySem.W.fnOf "sign_far_out" "sign_far_out" (defArgs s_sign_far_out) (defBody s_sign_far_out) (defScope s_sign_far_out) .none kV_sign_far_out dc_sign_far_out pm_sign_far_out an_sign_far_out cd_sign_far_out ct_sign_far_out), sl_sign_far_out⟩)
    (c_sign_far_out : PySem.W.codeIn K cd_sign_far_out "sign_far_out" = true)
    (k_sign_far_out : PySem.W.keepIn K (.ref f_sign_far_out) = true)
    (a_sign_from : PySem.W.nsIn K mainGlobals "sign_from" = some (some (.ref f_sign_from)))
    (l_sign_from : K.lookup f_sign_from = some ⟨oc_sign_from, od_sign_from, .func (PySem.W.fnOf "sign_from" "sign_from" (defArgs s_sign_from) (defBody s_sign_from) (defScope s_sign_from) .none kV_sign_from dc_sign_from pm_sign_from an_sign_from cd_sign_from ct_sign_from), sl_sign_from⟩)
    (c_sign_from : PySem.W.codeIn K cd_sign_from "sign_from" = true)
    (k_sign_from : PySem.W.keepIn K (.ref f_sign_from) = true)
    (a_sign_towards : PySem.W.nsIn K mainGlobals "sign_towards" = some (some (.ref f_sign_towards)))
    (l_sign_towards : K.lookup f_sign_towards = some ⟨oc_sign_towards, od_sign_towards, .func (PySem.W.fnOf "sign_towards" "sign_towards" (defArgs s_sign_towards) (defBody s_sign_towards) (defScope s_sign_towards) .none kV_sign_towards dc_sign_towards pm_sign_towards an_sign_towards cd_sign_towards ct_sign_towards), sl_sign_towards⟩)
    (c_sign_towards : PySem.W.codeIn K cd_sign_towards "sign_towards" = true)
    (k_sign_towards : PySem.W.keepIn K (.ref f_sign_towards) = true)
    (a_limit_beside : PySem.W.nsIn K mainGlobals "limit_beside" = some (some (.ref f_limit_beside)))
    (l_limit_beside : K.lookup f_limit_beside = some ⟨oc_limit_beside, od_limit_beside, .func (PySem.W.fnOf "limit_beside" "limit_beside" (defArgs s_limit_beside) (defBody s_limit_beside) (defScope s_limit_beside) .none kV_limit_beside dc_limit_beside pm_limit_beside an_limit_beside cd_limit_beside ct_limit_beside), sl_limit_beside⟩)
    (c_limit_beside : PySem.W.codeIn K cd_limit_beside "limit_beside" = true)
    (k_limit_beside : PySem.W.keepIn K (.ref f_limit_beside) = true)
    (a_never_below : PySem.W.nsIn K mainGlobals "never_below" = some (some (.ref f_never_below)))
    (l_never_below : K.lookup f_never_below = some ⟨oc_never_below, od_never_below, .func (PySem.W.fnOf "never_below" "never_below" (defArgs s_never_below) (defBody s_never_below) (defScope s_never_below) .none kV_never_below dc_never_below pm_never_below an_never_below cd_never_below ct_never_below), sl_never_below⟩)
    (c_never_below : PySem.W.codeIn K cd_never_below "never_below" = true)
    (k_never_below : PySem.W.keepIn K (.ref f_never_below) = true)
    (a_common_divisor : PySem.W.nsIn K mainGlobals "common_divisor" = some (some (.ref f_common_divisor)))
    (l_common_divisor : K.lookup f_common_divisor = some ⟨oc_common_divisor, od_common_divisor, .func (PySem.W.fnOf "common_divisor" "common_divisor" (defArgs s_common_divisor) (defBody s_common_divisor) (defScope s_common_divisor) .none kV_common_divisor dc_common_divisor pm_common_divisor an_common_divisor cd_common_divisor ct_common_divisor), sl_common_divisor⟩)
    (c_common_divisor : PySem.W.codeIn K cd_common_divisor "common_divisor" = true)
    (k_common_divisor : PySem.W.keepIn K (.ref f_common_divisor) = true)
    (a_lowest_terms : PySem.W.nsIn K mainGlobals "lowest_terms" = some (some (.ref f_lowest_terms)))
    (l_lowest_terms : K.lookup f_lowest_terms = some ⟨oc_lowest_terms, od_lowest_terms, .func (PySem.W.fnOf "lowest_terms" "lowest_terms" (defArgs s_lowest_terms) (defBody s_lowest_terms) (defScope s_lowest_terms) .none kV_lowest_terms dc_lowest_terms pm_lowest_terms an_lowest_terms cd_lowest_terms ct_lowest_terms), sl_lowest_terms⟩)
    (c_lowest_terms : PySem.W.codeIn K cd_lowest_terms "lowest_terms" = true)
    (k_lowest_terms : PySem.W.keepIn K (.ref f_lowest_terms) = true)
    (a_square_root : PySem.W.nsIn K mainGlobals "square_root" = some (some (.ref f_square_root)))
    (l_square_root : K.lookup f_square_root = some ⟨oc_square_root, od_square_root, .func (PySem.W.fnOf "square_root" "square_root" (defArgs s_square_root) (defBody s_square_root) (defScope s_square_root) .none kV_square_root dc_square_root pm_square_root an_square_root cd_square_root ct_square_root), sl_square_root⟩)
    (c_square_root : PySem.W.codeIn K cd_square_root "square_root" = true)
    (k_square_root : PySem.W.keepIn K (.ref f_square_root) = true)
    (a_under_root : PySem.W.nsIn K mainGlobals "under_root" = some (some (.ref f_under_root)))
    (l_under_root : K.lookup f_under_root = some ⟨oc_under_root, od_under_root, .func (PySem.W.fnOf "under_root" "under_root" (defArgs s_under_root) (defBody s_under_root) (defScope s_under_root) .none kV_under_root dc_under_root pm_under_root an_under_root cd_under_root ct_under_root), sl_under_root⟩)
    (c_under_root : PySem.W.codeIn K cd_under_root "under_root" = true)
    (k_under_root : PySem.W.keepIn K (.ref f_under_root) = true)
    (a_equation_of_fraction : PySem.W.nsIn K mainGlobals "equation_of_fraction" = some (some (.ref f_equation_of_fraction)))
    (l_equation_of_fraction : K.lookup f_equation_of_fraction = some ⟨oc_equation_of_fraction, od_equation_of_fraction, .func (PySem.W.fnOf "equation_of_fraction" "equation_of_fraction" (defArgs s_equation_of_fraction) (defBody s_equation_of_fraction) (defScope s_equation_of_fraction) .none kV_equation_of_fraction dc_equation_of_fraction pm_equation_of_fraction an_equation_of_fraction cd_equation_of_fraction ct_equation_of_fraction), sl_equation_of_fraction⟩)
    (c_equation_of_fraction : PySem.W.codeIn K cd_equation_of_fraction "equation_of_fraction" = true)
    (k_equation_of_fraction : PySem.W.keepIn K (.ref f_equation_of_fraction) = true)
    (a_simplest_equation : PySem.W.nsIn K mainGlobals "simplest_equation" = some (some (.ref f_simplest_equation)))
    (l_simplest_equation : K.lookup f_simplest_equation = some ⟨oc_simplest_equation, od_simplest_equation, .func (PySem.W.fnOf "simplest_equation" "simplest_equation" (defArgs s_simplest_equation) (defBody s_simplest_equation) (defScope s_simplest_equation) .none kV_simplest_equation dc_simplest_equation pm_simplest_equation an_simplest_equation cd_simplest_equation ct_simplest_equation), sl_simplest_equation⟩)
    (c_simplest_equation : PySem.W.codeIn K cd_simplest_equation "simplest_equation" = true)
    (k_simplest_equation : PySem.W.keepIn K (.ref f_simplest_equation) = true)
    (a_Exact_init : PySem.W.findIn K (.ref Ce) "__init__" = some (some (.ref f_Exact_init)))
    (i_Exact_init : PySem.W.isFn K (.ref f_Exact_init) = true)
    (l_Exact_init : K.lookup f_Exact_init = some ⟨oc_Exact_init, od_Exact_init, .func (PySem.W.fnOf "__init__" "Exact.__init__" (defArgs s_Exact_init) (defBody s_Exact_init) (defScope s_Exact_init) .none kV_Exact_init dc_Exact_init pm_Exact_init an_Exact_init cd_Exact_init ct_Exact_init), sl_Exact_init⟩)
    (c_Exact_init : PySem.W.codeIn K cd_Exact_init "Exact.__init__" = true)
    (k_Exact_init : PySem.W.keepIn K (.ref f_Exact_init) = true)
    (a_Exact_eq : PySem.W.findIn K (.ref Ce) "__eq__" = some (some (.ref f_Exact_eq)))
    (i_Exact_eq : PySem.W.isFn K (.ref f_Exact_eq) = true)
    (l_Exact_eq : K.lookup f_Exact_eq = some ⟨oc_Exact_eq, od_Exact_eq, .func (PySem.W.fnOf "__eq__" "Exact.__eq__" (defArgs s_Exact_eq) (defBody s_Exact_eq) (defScope s_Exact_eq) .none kV_Exact_eq dc_Exact_eq pm_Exact_eq an_Exact_eq cd_Exact_eq ct_Exact_eq), sl_Exact_eq⟩)
    (c_Exact_eq : PySem.W.codeIn K cd_Exact_eq "Exact.__eq__" = true)
    (k_Exact_eq : PySem.W.keepIn K (.ref f_Exact_eq) = true)
    (pa_Exact_equation : PySem.W.findIn K (.ref Ce) "equation" = some (some (.ref pr_Exact_equation)))
    (pg_Exact_equation : PySem.W.specialIn K (.ref pr_Exact_equation) "__get__" = some (some (.builtin "property.__get__")))
    (pt_Exact_equation : PySem.W.takesIn K (.ref pr_Exact_equation) = some true)
    (pc_Exact_equation : PySem.W.recIn K pr_Exact_equation "property" = some (.ref f_Exact_equation :: rest_Exact_equation))
    (l_Exact_equation : K.lookup f_Exact_equation = some ⟨oc_Exact_equation, od_Exact_equation, .func (PySem.W.fnOf "equation" "Exact.equation" (defArgs s_Exact_equation) (defBody s_Exact_equation) (defScope s_Exact_equation) .none kV_Exact_equation dc_Exact_equation pm_Exact_equation an_Exact_equation cd_Exact_equation ct_Exact_equation), sl_Exact_equation⟩)
    (c_Exact_equation : PySem.W.codeIn K cd_Exact_equation "Exact.equation" = true)
    (k_Exact_equation : PySem.W.keepIn K (.ref f_Exact_equation) = true)
    (a_ladder_limit : PySem.W.nsIn K mainGlobals "ladder_limit" = some (some (.ref f_ladder_limit)))
    (l_ladder_limit : K.lookup f_ladder_limit = some ⟨oc_ladder_limit, od_ladder_limit, .func (PySem.W.fnOf "ladder_limit" "ladder_limit" (defArgs s_ladder_limit) (defBody s_ladder_limit) (defScope s_ladder_limit) .none kV_ladder_limit dc_ladder_limit pm_ladder_limit an_ladder_limit cd_ladder_limit ct_ladder_limit), sl_ladder_limit⟩)
    (c_ladder_limit : PySem.W.codeIn K cd_ladder_limit "ladder_limit" = true)
    (k_ladder_limit : PySem.W.keepIn K (.ref f_ladder_limit) = true)
    (a_check_value : PySem.W.nsIn K mainGlobals "check_value" = some (some (.ref f_check_value)))
    (l_check_value : K.lookup f_check_value = some ⟨oc_check_value, od_check_value, .func (PySem.W.fnOf "check_value" "check_value" (defArgs s_check_value) (defBody s_check_value) (defScope s_check_value) .none kV_check_value dc_check_value pm_check_value an_check_value cd_check_value ct_check_value), sl_check_value⟩)
    (c_check_value : PySem.W.codeIn K cd_check_value "check_value" = true)
    (k_check_value : PySem.W.keepIn K (.ref f_check_value) = true)
    (a_check_bound : PySem.W.nsIn K mainGlobals "check_bound" = some (some (.ref f_check_bound)))
    (l_check_bound : K.lookup f_check_bound = some ⟨oc_check_bound, od_check_bound, .func (PySem.W.fnOf "check_bound" "check_bound" (defArgs s_check_bound) (defBody s_check_bound) (defScope s_check_bound) .none kV_check_bound dc_check_bound pm_check_bound an_check_bound cd_check_bound ct_check_bound), sl_check_bound⟩)
    (c_check_bound : PySem.W.codeIn K cd_check_bound "check_bound" = true)
    (k_check_bound : PySem.W.keepIn K (.ref f_check_bound) = true)
    (a_check_most : PySem.W.nsIn K mainGlobals "check_most" = some (some (.ref f_check_most)))
    (l_check_most : K.lookup f_check_most = some ⟨oc_check_most, od_check_most, .func (PySem.W.fnOf "check_most" "check_most" (defArgs s_check_most) (defBody s_check_most) (defScope s_check_most) .none kV_check_most dc_check_most pm_check_most an_check_most cd_check_most ct_check_most), sl_check_most⟩)
    (c_check_most : PySem.W.codeIn K cd_check_most "check_most" = true)
    (k_check_most : PySem.W.keepIn K (.ref f_check_most) = true)
    (a_check_never : PySem.W.nsIn K mainGlobals "check_never" = some (some (.ref f_check_never)))
    (l_check_never : K.lookup f_check_never = some ⟨oc_check_never, od_check_never, .func (PySem.W.fnOf "check_never" "check_never" (defArgs s_check_never) (defBody s_check_never) (defScope s_check_never) .none kV_check_never dc_check_never pm_check_never an_check_never cd_check_never ct_check_never), sl_check_never⟩)
    (c_check_never : PySem.W.codeIn K cd_check_never "check_never" = true)
    (k_check_never : PySem.W.keepIn K (.ref f_check_never) = true)
    (a_check_more : PySem.W.nsIn K mainGlobals "check_more" = some (some (.ref f_check_more)))
    (l_check_more : K.lookup f_check_more = some ⟨oc_check_more, od_check_more, .func (PySem.W.fnOf "check_more" "check_more" (defArgs s_check_more) (defBody s_check_more) (defScope s_check_more) .none kV_check_more dc_check_more pm_check_more an_check_more cd_check_more ct_check_more), sl_check_more⟩)
    (c_check_more : PySem.W.codeIn K cd_check_more "check_more" = true)
    (k_check_more : PySem.W.keepIn K (.ref f_check_more) = true)
    (a_check_limit : PySem.W.nsIn K mainGlobals "check_limit" = some (some (.ref f_check_limit)))
    (l_check_limit : K.lookup f_check_limit = some ⟨oc_check_limit, od_check_limit, .func (PySem.W.fnOf "check_limit" "check_limit" (defArgs s_check_limit) (defBody s_check_limit) (defScope s_check_limit) .none kV_check_limit dc_check_limit pm_check_limit an_check_limit cd_check_limit ct_check_limit), sl_check_limit⟩)
    (c_check_limit : PySem.W.codeIn K cd_check_limit "check_limit" = true)
    (k_check_limit : PySem.W.keepIn K (.ref f_check_limit) = true)
    (kr_kv : PySem.W.nsIn K aCh "value" = some (some (.ref f_check_value)))
    (kr_km : PySem.W.nsIn K aCh "most" = some (some (.ref f_check_most)))
    (kr_kn : PySem.W.nsIn K aCh "never" = some (some (.ref f_check_never)))
    (kr_ko : PySem.W.nsIn K aCh "more" = some (some (.ref f_check_more)))
    (kr_kl : PySem.W.nsIn K aCh "limit" = some (some (.ref f_check_limit)))
    (kr_k0 : PySem.W.nsIn K aCh "" = some none)
    (kr_kx : PySem.W.nsIn K aCh "x" = some none)
    (kr_kr : PySem.W.nsIn K aCh "rail" = some none)
    (kr_nd : decide ([f_check_value, f_check_most, f_check_never, f_check_more, f_check_limit].Nodup) = true)
    (a_accepts : PySem.W.nsIn K mainGlobals "accepts" = some (some (.ref f_accepts)))
    (l_accepts : K.lookup f_accepts = some ⟨oc_accepts, od_accepts, .func (PySem.W.fnOf "accepts" "accepts" (defArgs s_accepts) (defBody s_accepts) (defScope s_accepts) .none kV_accepts dc_accepts pm_accepts an_accepts cd_accepts ct_accepts), sl_accepts⟩)
    (c_accepts : PySem.W.codeIn K cd_accepts "accepts" = true)
    (k_accepts : PySem.W.keepIn K (.ref f_accepts) = true)
    (a_law_cell : PySem.W.nsIn K mainGlobals "_law_cell" = some (some (.ref f_law_cell)))
    (l_law_cell : K.lookup f_law_cell = some ⟨oc_law_cell, od_law_cell, .func (PySem.W.fnOf "_law_cell" "_law_cell" (defArgs s_law_cell) (defBody s_law_cell) (defScope s_law_cell) .none kV_law_cell dc_law_cell pm_law_cell an_law_cell cd_law_cell ct_law_cell), sl_law_cell⟩)
    (c_law_cell : PySem.W.codeIn K cd_law_cell "_law_cell" = true)
    (k_law_cell : PySem.W.keepIn K (.ref f_law_cell) = true)
    (a_law_src : PySem.W.nsIn K mainGlobals "_law_src" = some (some (.ref f_law_src)))
    (l_law_src : K.lookup f_law_src = some ⟨oc_law_src, od_law_src, .func (PySem.W.fnOf "_law_src" "_law_src" (defArgs s_law_src) (defBody s_law_src) (defScope s_law_src) .none kV_law_src dc_law_src pm_law_src an_law_src cd_law_src ct_law_src), sl_law_src⟩)
    (c_law_src : PySem.W.codeIn K cd_law_src "_law_src" = true)
    (k_law_src : PySem.W.keepIn K (.ref f_law_src) = true)
    (a_law_pick : PySem.W.nsIn K mainGlobals "_law_pick" = some (some (.ref f_law_pick)))
    (l_law_pick : K.lookup f_law_pick = some ⟨oc_law_pick, od_law_pick, .func (PySem.W.fnOf "_law_pick" "_law_pick" (defArgs s_law_pick) (defBody s_law_pick) (defScope s_law_pick) .none kV_law_pick dc_law_pick pm_law_pick an_law_pick cd_law_pick ct_law_pick), sl_law_pick⟩)
    (c_law_pick : PySem.W.codeIn K cd_law_pick "_law_pick" = true)
    (k_law_pick : PySem.W.keepIn K (.ref f_law_pick) = true)
    (a_law_lowest : PySem.W.nsIn K mainGlobals "_law_lowest" = some (some (.ref f_law_lowest)))
    (l_law_lowest : K.lookup f_law_lowest = some ⟨oc_law_lowest, od_law_lowest, .func (PySem.W.fnOf "_law_lowest" "_law_lowest" (defArgs s_law_lowest) (defBody s_law_lowest) (defScope s_law_lowest) .none kV_law_lowest dc_law_lowest pm_law_lowest an_law_lowest cd_law_lowest ct_law_lowest), sl_law_lowest⟩)
    (c_law_lowest : PySem.W.codeIn K cd_law_lowest "_law_lowest" = true)
    (k_law_lowest : PySem.W.keepIn K (.ref f_law_lowest) = true)
    (a_law_frac : PySem.W.nsIn K mainGlobals "_law_frac" = some (some (.ref f_law_frac)))
    (l_law_frac : K.lookup f_law_frac = some ⟨oc_law_frac, od_law_frac, .func (PySem.W.fnOf "_law_frac" "_law_frac" (defArgs s_law_frac) (defBody s_law_frac) (defScope s_law_frac) .none kV_law_frac dc_law_frac pm_law_frac an_law_frac cd_law_frac ct_law_frac), sl_law_frac⟩)
    (c_law_frac : PySem.W.codeIn K cd_law_frac "_law_frac" = true)
    (k_law_frac : PySem.W.keepIn K (.ref f_law_frac) = true)
    (a_law_led : PySem.W.nsIn K mainGlobals "_law_led" = some (some (.ref f_law_led)))
    (l_law_led : K.lookup f_law_led = some ⟨oc_law_led, od_law_led, .func (PySem.W.fnOf "_law_led" "_law_led" (defArgs s_law_led) (defBody s_law_led) (defScope s_law_led) .none kV_law_led dc_law_led pm_law_led an_law_led cd_law_led ct_law_led), sl_law_led⟩)
    (c_law_led : PySem.W.codeIn K cd_law_led "_law_led" = true)
    (k_law_led : PySem.W.keepIn K (.ref f_law_led) = true)
    (a_law_after : PySem.W.nsIn K mainGlobals "_law_after" = some (some (.ref f_law_after)))
    (l_law_after : K.lookup f_law_after = some ⟨oc_law_after, od_law_after, .func (PySem.W.fnOf "_law_after" "_law_after" (defArgs s_law_after) (defBody s_law_after) (defScope s_law_after) .none kV_law_after dc_law_after pm_law_after an_law_after cd_law_after ct_law_after), sl_law_after⟩)
    (c_law_after : PySem.W.codeIn K cd_law_after "_law_after" = true)
    (k_law_after : PySem.W.keepIn K (.ref f_law_after) = true)
    (a_law_is_whole : PySem.W.nsIn K mainGlobals "_law_is_whole" = some (some (.ref f_law_is_whole)))
    (l_law_is_whole : K.lookup f_law_is_whole = some ⟨oc_law_is_whole, od_law_is_whole, .func (PySem.W.fnOf "_law_is_whole" "_law_is_whole" (defArgs s_law_is_whole) (defBody s_law_is_whole) (defScope s_law_is_whole) .none kV_law_is_whole dc_law_is_whole pm_law_is_whole an_law_is_whole cd_law_is_whole ct_law_is_whole), sl_law_is_whole⟩)
    (c_law_is_whole : PySem.W.codeIn K cd_law_is_whole "_law_is_whole" = true)
    (k_law_is_whole : PySem.W.keepIn K (.ref f_law_is_whole) = true)
    (a_law_is_load : PySem.W.nsIn K mainGlobals "_law_is_load" = some (some (.ref f_law_is_load)))
    (l_law_is_load : K.lookup f_law_is_load = some ⟨oc_law_is_load, od_law_is_load, .func (PySem.W.fnOf "_law_is_load" "_law_is_load" (defArgs s_law_is_load) (defBody s_law_is_load) (defScope s_law_is_load) .none kV_law_is_load dc_law_is_load pm_law_is_load an_law_is_load cd_law_is_load ct_law_is_load), sl_law_is_load⟩)
    (c_law_is_load : PySem.W.codeIn K cd_law_is_load "_law_is_load" = true)
    (k_law_is_load : PySem.W.keepIn K (.ref f_law_is_load) = true)
    (a_law_is_number : PySem.W.nsIn K mainGlobals "_law_is_number" = some (some (.ref f_law_is_number)))
    (l_law_is_number : K.lookup f_law_is_number = some ⟨oc_law_is_number, od_law_is_number, .func (PySem.W.fnOf "_law_is_number" "_law_is_number" (defArgs s_law_is_number) (defBody s_law_is_number) (defScope s_law_is_number) .none kV_law_is_number dc_law_is_number pm_law_is_number an_law_is_number cd_law_is_number ct_law_is_number), sl_law_is_number⟩)
    (c_law_is_number : PySem.W.codeIn K cd_law_is_number "_law_is_number" = true)
    (k_law_is_number : PySem.W.keepIn K (.ref f_law_is_number) = true)
    (a_law_is_row : PySem.W.nsIn K mainGlobals "_law_is_row" = some (some (.ref f_law_is_row)))
    (l_law_is_row : K.lookup f_law_is_row = some ⟨oc_law_is_row, od_law_is_row, .func (PySem.W.fnOf "_law_is_row" "_law_is_row" (defArgs s_law_is_row) (defBody s_law_is_row) (defScope s_law_is_row) .none kV_law_is_row dc_law_is_row pm_law_is_row an_law_is_row cd_law_is_row ct_law_is_row), sl_law_is_row⟩)
    (c_law_is_row : PySem.W.codeIn K cd_law_is_row "_law_is_row" = true)
    (k_law_is_row : PySem.W.keepIn K (.ref f_law_is_row) = true)
    (a_law_anyrow : PySem.W.nsIn K mainGlobals "_law_anyrow" = some (some (.ref f_law_anyrow)))
    (l_law_anyrow : K.lookup f_law_anyrow = some ⟨oc_law_anyrow, od_law_anyrow, .func (PySem.W.fnOf "_law_anyrow" "_law_anyrow" (defArgs s_law_anyrow) (defBody s_law_anyrow) (defScope s_law_anyrow) .none kV_law_anyrow dc_law_anyrow pm_law_anyrow an_law_anyrow cd_law_anyrow ct_law_anyrow), sl_law_anyrow⟩)
    (c_law_anyrow : PySem.W.codeIn K cd_law_anyrow "_law_anyrow" = true)
    (k_law_anyrow : PySem.W.keepIn K (.ref f_law_anyrow) = true)
    (a_law_anyload : PySem.W.nsIn K mainGlobals "_law_anyload" = some (some (.ref f_law_anyload)))
    (l_law_anyload : K.lookup f_law_anyload = some ⟨oc_law_anyload, od_law_anyload, .func (PySem.W.fnOf "_law_anyload" "_law_anyload" (defArgs s_law_anyload) (defBody s_law_anyload) (defScope s_law_anyload) .none kV_law_anyload dc_law_anyload pm_law_anyload an_law_anyload cd_law_anyload ct_law_anyload), sl_law_anyload⟩)
    (c_law_anyload : PySem.W.codeIn K cd_law_anyload "_law_anyload" = true)
    (k_law_anyload : PySem.W.keepIn K (.ref f_law_anyload) = true)
    (a_law_anyodd : PySem.W.nsIn K mainGlobals "_law_anyodd" = some (some (.ref f_law_anyodd)))
    (l_law_anyodd : K.lookup f_law_anyodd = some ⟨oc_law_anyodd, od_law_anyodd, .func (PySem.W.fnOf "_law_anyodd" "_law_anyodd" (defArgs s_law_anyodd) (defBody s_law_anyodd) (defScope s_law_anyodd) .none kV_law_anyodd dc_law_anyodd pm_law_anyodd an_law_anyodd cd_law_anyodd ct_law_anyodd), sl_law_anyodd⟩)
    (c_law_anyodd : PySem.W.codeIn K cd_law_anyodd "_law_anyodd" = true)
    (k_law_anyodd : PySem.W.keepIn K (.ref f_law_anyodd) = true)
    (a_law_sign : PySem.W.nsIn K mainGlobals "_law_sign" = some (some (.ref f_law_sign)))
    (l_law_sign : K.lookup f_law_sign = some ⟨oc_law_sign, od_law_sign, .func (PySem.W.fnOf "_law_sign" "_law_sign" (defArgs s_law_sign) (defBody s_law_sign) (defScope s_law_sign) .none kV_law_sign dc_law_sign pm_law_sign an_law_sign cd_law_sign ct_law_sign), sl_law_sign⟩)
    (c_law_sign : PySem.W.codeIn K cd_law_sign "_law_sign" = true)
    (k_law_sign : PySem.W.keepIn K (.ref f_law_sign) = true)
    (a_law_never : PySem.W.nsIn K mainGlobals "_law_never" = some (some (.ref f_law_never)))
    (l_law_never : K.lookup f_law_never = some ⟨oc_law_never, od_law_never, .func (PySem.W.fnOf "_law_never" "_law_never" (defArgs s_law_never) (defBody s_law_never) (defScope s_law_never) .none kV_law_never dc_law_never pm_law_never an_law_never cd_law_never ct_law_never), sl_law_never⟩)
    (c_law_never : PySem.W.codeIn K cd_law_never "_law_never" = true)
    (k_law_never : PySem.W.keepIn K (.ref f_law_never) = true)
    (a_law_isqrt : PySem.W.nsIn K mainGlobals "_law_isqrt" = some (some (.ref f_law_isqrt)))
    (l_law_isqrt : K.lookup f_law_isqrt = some ⟨oc_law_isqrt, od_law_isqrt, .func (PySem.W.fnOf "_law_isqrt" "_law_isqrt" (defArgs s_law_isqrt) (defBody s_law_isqrt) (defScope s_law_isqrt) .none kV_law_isqrt dc_law_isqrt pm_law_isqrt an_law_isqrt cd_law_isqrt ct_law_isqrt), sl_law_isqrt⟩)
    (c_law_isqrt : PySem.W.codeIn K cd_law_isqrt "_law_isqrt" = true)
    (k_law_isqrt : PySem.W.keepIn K (.ref f_law_isqrt) = true)
    (a_law_limit : PySem.W.nsIn K mainGlobals "_law_limit" = some (some (.ref f_law_limit)))
    (l_law_limit : K.lookup f_law_limit = some ⟨oc_law_limit, od_law_limit, .func (PySem.W.fnOf "_law_limit" "_law_limit" (defArgs s_law_limit) (defBody s_law_limit) (defScope s_law_limit) .none kV_law_limit dc_law_limit pm_law_limit an_law_limit cd_law_limit ct_law_limit), sl_law_limit⟩)
    (c_law_limit : PySem.W.codeIn K cd_law_limit "_law_limit" = true)
    (k_law_limit : PySem.W.keepIn K (.ref f_law_limit) = true)
    (a_law_even : PySem.W.nsIn K mainGlobals "_law_even" = some (some (.ref f_law_even)))
    (l_law_even : K.lookup f_law_even = some ⟨oc_law_even, od_law_even, .func (PySem.W.fnOf "_law_even" "_law_even" (defArgs s_law_even) (defBody s_law_even) (defScope s_law_even) .none kV_law_even dc_law_even pm_law_even an_law_even cd_law_even ct_law_even), sl_law_even⟩)
    (c_law_even : PySem.W.codeIn K cd_law_even "_law_even" = true)
    (k_law_even : PySem.W.keepIn K (.ref f_law_even) = true)
    (a_law_some_row : PySem.W.nsIn K mainGlobals "_law_some_row" = some (some (.ref f_law_some_row)))
    (l_law_some_row : K.lookup f_law_some_row = some ⟨oc_law_some_row, od_law_some_row, .func (PySem.W.fnOf "_law_some_row" "_law_some_row" (defArgs s_law_some_row) (defBody s_law_some_row) (defScope s_law_some_row) .none kV_law_some_row dc_law_some_row pm_law_some_row an_law_some_row cd_law_some_row ct_law_some_row), sl_law_some_row⟩)
    (c_law_some_row : PySem.W.codeIn K cd_law_some_row "_law_some_row" = true)
    (k_law_some_row : PySem.W.keepIn K (.ref f_law_some_row) = true)
    (a_law_near : PySem.W.nsIn K mainGlobals "_law_near" = some (some (.ref f_law_near)))
    (l_law_near : K.lookup f_law_near = some ⟨oc_law_near, od_law_near, .func (PySem.W.fnOf "_law_near" "_law_near" (defArgs s_law_near) (defBody s_law_near) (defScope s_law_near) .none kV_law_near dc_law_near pm_law_near an_law_near cd_law_near ct_law_near), sl_law_near⟩)
    (c_law_near : PySem.W.codeIn K cd_law_near "_law_near" = true)
    (k_law_near : PySem.W.keepIn K (.ref f_law_near) = true)
    (a_law_crossing : PySem.W.nsIn K mainGlobals "_law_crossing" = some (some (.ref f_law_crossing)))
    (l_law_crossing : K.lookup f_law_crossing = some ⟨oc_law_crossing, od_law_crossing, .func (PySem.W.fnOf "_law_crossing" "_law_crossing" (defArgs s_law_crossing) (defBody s_law_crossing) (defScope s_law_crossing) .none kV_law_crossing dc_law_crossing pm_law_crossing an_law_crossing cd_law_crossing ct_law_crossing), sl_law_crossing⟩)
    (c_law_crossing : PySem.W.codeIn K cd_law_crossing "_law_crossing" = true)
    (k_law_crossing : PySem.W.keepIn K (.ref f_law_crossing) = true)
    (a_law_bent : PySem.W.nsIn K mainGlobals "_law_bent" = some (some (.ref f_law_bent)))
    (l_law_bent : K.lookup f_law_bent = some ⟨oc_law_bent, od_law_bent, .func (PySem.W.fnOf "_law_bent" "_law_bent" (defArgs s_law_bent) (defBody s_law_bent) (defScope s_law_bent) .none kV_law_bent dc_law_bent pm_law_bent an_law_bent cd_law_bent ct_law_bent), sl_law_bent⟩)
    (c_law_bent : PySem.W.codeIn K cd_law_bent "_law_bent" = true)
    (k_law_bent : PySem.W.keepIn K (.ref f_law_bent) = true)
    (a_law_due : PySem.W.nsIn K mainGlobals "_law_due" = some (some (.ref f_law_due)))
    (l_law_due : K.lookup f_law_due = some ⟨oc_law_due, od_law_due, .func (PySem.W.fnOf "_law_due" "_law_due" (defArgs s_law_due) (defBody s_law_due) (defScope s_law_due) .none kV_law_due dc_law_due pm_law_due an_law_due cd_law_due ct_law_due), sl_law_due⟩)
    (c_law_due : PySem.W.codeIn K cd_law_due "_law_due" = true)
    (k_law_due : PySem.W.keepIn K (.ref f_law_due) = true)
    (a_law_told_limit : PySem.W.nsIn K mainGlobals "_law_told_limit" = some (some (.ref f_law_told_limit)))
    (l_law_told_limit : K.lookup f_law_told_limit = some ⟨oc_law_told_limit, od_law_told_limit, .func (PySem.W.fnOf "_law_told_limit" "_law_told_limit" (defArgs s_law_told_limit) (defBody s_law_told_limit) (defScope s_law_told_limit) .none kV_law_told_limit dc_law_told_limit pm_law_told_limit an_law_told_limit cd_law_told_limit ct_law_told_limit), sl_law_told_limit⟩)
    (c_law_told_limit : PySem.W.codeIn K cd_law_told_limit "_law_told_limit" = true)
    (k_law_told_limit : PySem.W.keepIn K (.ref f_law_told_limit) = true)
    (a_law_case : PySem.W.nsIn K mainGlobals "_law_case" = some (some (.ref f_law_case)))
    (l_law_case : K.lookup f_law_case = some ⟨oc_law_case, od_law_case, .func (PySem.W.fnOf "_law_case" "_law_case" (defArgs s_law_case) (defBody s_law_case) (defScope s_law_case) .none kV_law_case dc_law_case pm_law_case an_law_case cd_law_case ct_law_case), sl_law_case⟩)
    (c_law_case : PySem.W.codeIn K cd_law_case "_law_case" = true)
    (k_law_case : PySem.W.keepIn K (.ref f_law_case) = true)
    (a_law_right : PySem.W.nsIn K mainGlobals "_law_right" = some (some (.ref f_law_right)))
    (l_law_right : K.lookup f_law_right = some ⟨oc_law_right, od_law_right, .func (PySem.W.fnOf "_law_right" "_law_right" (defArgs s_law_right) (defBody s_law_right) (defScope s_law_right) .none kV_law_right dc_law_right pm_law_right an_law_right cd_law_right ct_law_right), sl_law_right⟩)
    (c_law_right : PySem.W.codeIn K cd_law_right "_law_right" = true)
    (k_law_right : PySem.W.keepIn K (.ref f_law_right) = true)
    (a_law : PySem.W.nsIn K mainGlobals "law" = some (some (.ref f_law)))
    (l_law : K.lookup f_law = some ⟨oc_law, od_law, .func (PySem.W.fnOf "law" "law" (defArgs s_law) (defBody s_law) (defScope s_law) .none kV_law dc_law pm_law an_law cd_law ct_law), sl_law⟩)
    (c_law : PySem.W.codeIn K cd_law "law" = true)
    (k_law : PySem.W.keepIn K (.ref f_law) = true) :
    ∃ fd : FuncData, (∀ (s : Shared) (v : Value), BindsTo s fd ⟨[v], []⟩ [("_law_script", v)]) ∧ ∀ base : Heap, K.In base → base.Ns mainGlobals mg → FnG l.prog w K mg base 11 fa fd ["_law_script"] (spLaw K) := by
  have e := hfa.symm.trans (PySem.W.mg_of X G a_law)
  cases e
  have T : TxtX K mg w tG t1 t3 tC tK tP aO aW aCh Ce := { len := PySem.W.mg_none_of X G z_len, abs := PySem.W.mg_none_of X G z_abs, int_ := PySem.W.mg_none_of X G z_int, bool_ := PySem.W.mg_none_of X G z_bool, tuple_ := PySem.W.mg_none_of X G z_tuple, isinstance := PySem.W.mg_none_of X G z_isinstance, divmod := PySem.W.mg_none_of X G z_divmod, max := PySem.W.mg_none_of X G z_max, min := PySem.W.mg_none_of X G z_min, range := PySem.W.mg_none_of X G z_range, all := PySem.W.mg_none_of X G z_all, repr := PySem.W.mg_none_of X G z_repr, str_ := PySem.W.mg_none_of X G z_str, enumerate := PySem.W.mg_none_of X G z_enumerate, any := PySem.W.mg_none_of X G z_any, list_ := PySem.W.mg_none_of X G z_list, mgG := PySem.W.mg_of X G aG, mgO := PySem.W.mg_of X G aOp, opn := ⟨_, _, _, laOp, rfl, rfl, (by show 2 ≤ sizeLine; decide), .cons ⟨_, rfl⟩ (.cons ⟨_, rfl⟩ .nil)⟩, mgOh := PySem.W.mg_of X G aOh, mgJo := PySem.W.mg_of X G aJo, mgCo := PySem.W.mg_of X G aMS, mgKi := PySem.W.mg_of X G aKi, mgW := PySem.W.mg_of X G aWo, wds := ⟨_, _, _, laWo, rfl, rfl, (by show 2 ≤ sizeLine; decide), .cons ⟨_, rfl⟩ (.cons ⟨_, rfl⟩ .nil)⟩, mgCh := PySem.W.mg_of X G aChk, chk := He.dicW_ok kr_chk, mgP := PySem.W.mg_of X G aGP, mgE := PySem.W.mg_of X G aCe, clE := ⟨pgCe, hdCe, poCe, saCe⟩, nP := nCe_parts }
  refine ⟨PySem.W.fnOf "law" "law" (defArgs s_law) (defBody s_law) (defScope s_law) .none kV_law dc_law pm_law an_law cd_law ct_law, fun s v => .of_eq rfl, fun base _ _ => ?_⟩
  have TX := T
  replace T := TX.toTxtA
  have F_is_integer := fun_mk (st := s_is_integer) l_is_integer c_is_integer k_is_integer
  have b_is_integer := F_is_integer.binds (ps := ["value"]) fun _ _ _ _ _ _ us hl => match us, hl with | [_], _ => rfl
  have D_is_integer : Df l.prog w K mg base 1 "is_integer" ["value"] spIsInt := ⟨_, _, ok_isint F_is_integer T.toTxt, PySem.W.mg_of X G a_is_integer, k_is_integer, b_is_integer⟩
  have D_is_integerG : Df l.prog w K mg base 1 "is_integer" ["value"] (spIntG K) := ⟨_, _, ok_isintG F_is_integer T.toTxt, PySem.W.mg_of X G a_is_integer, k_is_integer, b_is_integer⟩
  have F_is_integer_within := fun_mk (st := s_is_integer_within) l_is_integer_within c_is_integer_within k_is_integer_within
  have b_is_integer_within := F_is_integer_within.binds (ps := ["value", "least", "most"]) fun _ _ _ _ _ _ us hl => match us, hl with | [_, _, _], _ => rfl
  have D_is_integer_within : Df l.prog w K mg base 2 "is_integer_within" ["value", "least", "most"] (spWithinG K) := ⟨_, _, ok_withinG F_is_integer_within D_is_integerG, PySem.W.mg_of X G a_is_integer_within, k_is_integer_within, b_is_integer_within⟩
  have F_is_pair_of_integers := fun_mk (st := s_is_pair_of_integers) l_is_pair_of_integers c_is_pair_of_integers k_is_pair_of_integers
  have b_is_pair_of_integers := F_is_pair_of_integers.binds (ps := ["value"]) fun _ _ _ _ _ _ us hl => match us, hl with | [_], _ => rfl
  have D_is_pair_of_integers : Df l.prog w K mg base 2 "is_pair_of_integers" ["value"] (spPairG K) := ⟨_, _, ok_ispairG F_is_pair_of_integers T.toTxt D_is_integerG, PySem.W.mg_of X G a_is_pair_of_integers, k_is_pair_of_integers, b_is_pair_of_integers⟩
  have F_is_resistance := fun_mk (st := s_is_resistance) l_is_resistance c_is_resistance k_is_resistance
  have b_is_resistance := F_is_resistance.binds (ps := ["value"]) fun _ _ _ _ _ _ us hl => match us, hl with | [_], _ => rfl
  have D_is_resistance : Df l.prog w K mg base 3 "is_resistance" ["value"] (spResG K) := ⟨_, _, ok_isresG F_is_resistance T.toTxt2 D_is_integerG D_is_pair_of_integers, PySem.W.mg_of X G a_is_resistance, k_is_resistance, b_is_resistance⟩
  have F_pair_of := fun_mk (st := s_pair_of) l_pair_of c_pair_of k_pair_of
  have b_pair_of := F_pair_of.binds (ps := ["fraction_or_open"]) fun _ _ _ _ _ _ us hl => match us, hl with | [_], _ => rfl
  have D_pair_of : Df l.prog w K mg base 2 "pair_of" ["fraction_or_open"] spPairN := ⟨_, _, FnOk.weak (ok_pairof F_pair_of D_is_integer) pairN_weak, PySem.W.mg_of X G a_pair_of, k_pair_of, b_pair_of⟩
  have F_sign := fun_mk (st := s_sign) l_sign c_sign k_sign
  have b_sign := F_sign.binds (ps := ["number"]) fun _ _ _ _ _ _ us hl => match us, hl with | [_], _ => rfl
  have D_sign : Df l.prog w K mg base 1 "sign" ["number"] spSign := ⟨_, _, ok_sign F_sign, PySem.W.mg_of X G a_sign, k_sign, b_sign⟩
  have F_pair_order := fun_mk (st := s_pair_order) l_pair_order c_pair_order k_pair_order
  have b_pair_order := F_pair_order.binds (ps := ["first", "second"]) fun _ _ _ _ _ _ us hl => match us, hl with | [_, _], _ => rfl
  have D_pair_order : Df l.prog w K mg base 2 "pair_order" ["first", "second"] spPO := ⟨_, _, ok_po F_pair_order D_sign, PySem.W.mg_of X G a_pair_order, k_pair_order, b_pair_order⟩
  have F_is_number := fun_mk (st := s_is_number) l_is_number c_is_number k_is_number
  have b_is_number := F_is_number.binds (ps := ["value"]) fun _ _ _ _ _ _ us hl => match us, hl with | [_], _ => rfl
  have D_is_number : Df l.prog w K mg base 3 "is_number" ["value"] (spNumG K) := ⟨_, _, ok_numG F_is_number T D_is_integerG D_is_pair_of_integers, PySem.W.mg_of X G a_is_number, k_is_number, b_is_number⟩
  have F_is_piece := fun_mk (st := s_is_piece) l_is_piece c_is_piece k_is_piece
  have b_is_piece := F_is_piece.binds (ps := ["value"]) fun _ _ _ _ _ _ us hl => match us, hl with | [_], _ => rfl
  have D_is_piece : Df l.prog w K mg base 3 "is_piece" ["value"] (spPieceG K) := ⟨_, _, ok_pieceG F_is_piece T D_is_integer_within, PySem.W.mg_of X G a_is_piece, k_is_piece, b_is_piece⟩
  have F_is_row := fun_mk (st := s_is_row) l_is_row c_is_row k_is_row
  have b_is_row := F_is_row.binds (ps := ["value"]) fun _ _ _ _ _ _ us hl => match us, hl with | [_], _ => rfl
  have D_is_row : Df l.prog w K mg base 4 "is_row" ["value"] (spRowG K) := ⟨_, _, ok_rowG F_is_row T D_is_piece, PySem.W.mg_of X G a_is_row, k_is_row, b_is_row⟩
  have F_is_empty := fun_mk (st := s_is_empty) l_is_empty c_is_empty k_is_empty
  have b_is_empty := F_is_empty.binds (ps := ["value"]) fun _ _ _ _ _ _ us hl => match us, hl with | [_], _ => rfl
  have D_is_empty : Df l.prog w K mg base 1 "is_empty" ["value"] (spEmptyG K) := ⟨_, _, ok_emptyG F_is_empty T.toTxt, PySem.W.mg_of X G a_is_empty, k_is_empty, b_is_empty⟩
  have F_matrix_and_scale := fun_mk (st := s_matrix_and_scale) l_matrix_and_scale c_matrix_and_scale k_matrix_and_scale
  have b_matrix_and_scale := F_matrix_and_scale.binds (ps := ["row"]) fun _ _ _ _ _ _ us hl => match us, hl with | [_], _ => rfl
  have D_matrix_and_scale : Df l.prog w K mg base 1 "matrix_and_scale" ["row"] spMat := ⟨_, _, ok_mat F_matrix_and_scale, PySem.W.mg_of X G a_matrix_and_scale, k_matrix_and_scale, b_matrix_and_scale⟩
  have F_matrix_of := fun_mk (st := s_matrix_of) l_matrix_of c_matrix_of k_matrix_of
  have b_matrix_of := F_matrix_of.binds (ps := ["row"]) fun _ _ _ _ _ _ us hl => match us, hl with | [_], _ => rfl
  have D_matrix_of : Df l.prog w K mg base 2 "matrix_of" ["row"] spMatOf := ⟨_, _, ok_matof F_matrix_of D_matrix_and_scale, PySem.W.mg_of X G a_matrix_of, k_matrix_of, b_matrix_of⟩
  have F_shown_before := fun_mk (st := s_shown_before) l_shown_before c_shown_before k_shown_before
  have b_shown_before := F_shown_before.binds (ps := ["matrix", "pair"]) fun _ _ _ _ _ _ us hl => match us, hl with | [_, _], _ => rfl
  have D_shown_before : Df l.prog w K mg base 1 "shown_before" ["matrix", "pair"] spShown := ⟨_, _, ok_shown F_shown_before, PySem.W.mg_of X G a_shown_before, k_shown_before, b_shown_before⟩
  have D_is_integer_withinP : Df l.prog w K mg base 2 "is_integer_within" ["value", "least", "most"] spWithin := ⟨_, _, ok_within F_is_integer_within D_is_integer, PySem.W.mg_of X G a_is_integer_within, k_is_integer_within, b_is_integer_within⟩
  have D_signZ : Df l.prog w K mg base 1 "sign" ["number"] spSgZ := ⟨_, _, FnOk.weak (ok_sign F_sign) sgZ_weak, PySem.W.mg_of X G a_sign, k_sign, b_sign⟩
  have D_pair_orderZ : Df l.prog w K mg base 2 "pair_order" ["first", "second"] (spPOZ K) := ⟨_, _, ok_poZ F_pair_order D_signZ, PySem.W.mg_of X G a_pair_order, k_pair_order, b_pair_order⟩
  have F_difference := fun_mk (st := s_difference) l_difference c_difference k_difference
  have b_difference := F_difference.binds (ps := ["matrix", "other_matrix"]) fun _ _ _ _ _ _ us hl => match us, hl with | [_, _], _ => rfl
  have D_difference : Df l.prog w K mg base 1 "difference" ["matrix", "other_matrix"] spDiff := ⟨_, _, ok_diff F_difference, PySem.W.mg_of X G a_difference, k_difference, b_difference⟩
  have F_sign_at := fun_mk (st := s_sign_at) l_sign_at c_sign_at k_sign_at
  have b_sign_at := F_sign_at.binds (ps := ["parabola", "pair"]) fun _ _ _ _ _ _ us hl => match us, hl with | [_, _], _ => rfl
  have D_sign_at : Df l.prog w K mg base 2 "sign_at" ["parabola", "pair"] (spSAt K) := ⟨_, _, ok_sat F_sign_at D_signZ, PySem.W.mg_of X G a_sign_at, k_sign_at, b_sign_at⟩
  have F_sign_far_out := fun_mk (st := s_sign_far_out) l_sign_far_out c_sign_far_out k_sign_far_out
  have b_sign_far_out := F_sign_far_out.binds (ps := ["parabola"]) fun _ _ _ _ _ _ us hl => match us, hl with | [_], _ => rfl
  have D_sign_far_out : Df l.prog w K mg base 2 "sign_far_out" ["parabola"] spFar := ⟨_, _, ok_far F_sign_far_out D_signZ, PySem.W.mg_of X G a_sign_far_out, k_sign_far_out, b_sign_far_out⟩
  have F_sign_from := fun_mk (st := s_sign_from) l_sign_from c_sign_from k_sign_from
  have b_sign_from := F_sign_from.binds (ps := ["parabola", "pair"]) fun _ _ _ _ _ _ us hl => match us, hl with | [_, _], _ => rfl
  have D_sign_from : Df l.prog w K mg base 3 "sign_from" ["parabola", "pair"] (spFrom K) := ⟨_, _, ok_from F_sign_from D_sign_far_out D_sign_at, PySem.W.mg_of X G a_sign_from, k_sign_from, b_sign_from⟩
  have F_sign_towards := fun_mk (st := s_sign_towards) l_sign_towards c_sign_towards k_sign_towards
  have b_sign_towards := F_sign_towards.binds (ps := ["parabola", "limit"]) fun _ _ _ _ _ _ us hl => match us, hl with | [_, _], _ => rfl
  have D_sign_towards : Df l.prog w K mg base 3 "sign_towards" ["parabola", "limit"] (spTow aO) := ⟨_, _, ok_tow F_sign_towards T.toTxt2 D_sign_far_out, PySem.W.mg_of X G a_sign_towards, k_sign_towards, b_sign_towards⟩
  have F_limit_beside := fun_mk (st := s_limit_beside) l_limit_beside c_limit_beside k_limit_beside
  have b_limit_beside := F_limit_beside.binds (ps := ["limit", "pair"]) fun _ _ _ _ _ _ us hl => match us, hl with | [_, _], _ => rfl
  have D_limit_beside : Df l.prog w K mg base 3 "limit_beside" ["limit", "pair"] (spLB K aO) := ⟨_, _, ok_lb F_limit_beside T.toTxt2 D_pair_orderZ, PySem.W.mg_of X G a_limit_beside, k_limit_beside, b_limit_beside⟩
  have F_never_below := fun_mk (st := s_never_below) l_never_below c_never_below k_never_below
  have b_never_below := F_never_below.binds (ps := ["parabola", "pair", "limit"]) fun _ _ _ _ _ _ us hl => match us, hl with | [_, _, _], _ => rfl
  have D_never_below : Df l.prog w K mg base 4 "never_below" ["parabola", "pair", "limit"] (spNB aO) := ⟨_, _, ok_nb F_never_below D_sign_from D_sign_towards D_pair_orderZ D_limit_beside, PySem.W.mg_of X G a_never_below, k_never_below, b_never_below⟩
  have F_common_divisor := fun_mk (st := s_common_divisor) l_common_divisor c_common_divisor k_common_divisor
  have b_common_divisor := F_common_divisor.binds (ps := ["first", "second"]) fun _ _ _ _ _ _ us hl => match us, hl with | [_, _], _ => rfl
  have D_common_divisor : Df l.prog w K mg base 1 "common_divisor" ["first", "second"] spGcd := ⟨_, _, ok_gcd F_common_divisor T.toTxt, PySem.W.mg_of X G a_common_divisor, k_common_divisor, b_common_divisor⟩
  have F_lowest_terms := fun_mk (st := s_lowest_terms) l_lowest_terms c_lowest_terms k_lowest_terms
  have b_lowest_terms := F_lowest_terms.binds (ps := ["top", "bottom"]) fun _ _ _ _ _ _ us hl => match us, hl with | [_, _], _ => rfl
  have D_lowest_terms : Df l.prog w K mg base 2 "lowest_terms" ["top", "bottom"] spLow := ⟨_, _, ok_low F_lowest_terms D_common_divisor, PySem.W.mg_of X G a_lowest_terms, k_lowest_terms, b_lowest_terms⟩
  have F_square_root := fun_mk (st := s_square_root) l_square_root c_square_root k_square_root
  have b_square_root := F_square_root.binds (ps := ["number"]) fun _ _ _ _ _ _ us hl => match us, hl with | [_], _ => rfl
  have D_square_root : Df l.prog w K mg base 1 "square_root" ["number"] spRoot := ⟨_, _, ok_sqrt F_square_root, PySem.W.mg_of X G a_square_root, k_square_root, b_square_root⟩
  have F_under_root := fun_mk (st := s_under_root) l_under_root c_under_root k_under_root
  have b_under_root := F_under_root.binds (ps := ["square", "line", "whole"]) fun _ _ _ _ _ _ us hl => match us, hl with | [_, _, _], _ => rfl
  have D_under_root : Df l.prog w K mg base 1 "under_root" ["square", "line", "whole"] spUnder := ⟨_, _, ok_under F_under_root, PySem.W.mg_of X G a_under_root, k_under_root, b_under_root⟩
  have F_equation_of_fraction := fun_mk (st := s_equation_of_fraction) l_equation_of_fraction c_equation_of_fraction k_equation_of_fraction
  have b_equation_of_fraction := F_equation_of_fraction.binds (ps := ["top", "bottom"]) fun _ _ _ _ _ _ us hl => match us, hl with | [_, _], _ => rfl
  have D_equation_of_fraction : Df l.prog w K mg base 3 "equation_of_fraction" ["top", "bottom"] spEqF := ⟨_, _, ok_eqf F_equation_of_fraction D_lowest_terms, PySem.W.mg_of X G a_equation_of_fraction, k_equation_of_fraction, b_equation_of_fraction⟩
  have F_simplest_equation := fun_mk (st := s_simplest_equation) l_simplest_equation c_simplest_equation k_simplest_equation
  have b_simplest_equation := F_simplest_equation.binds (ps := ["square", "line", "whole"]) fun _ _ _ _ _ _ us hl => match us, hl with | [_, _, _], _ => rfl
  have D_simplest_equation : Df l.prog w K mg base 4 "simplest_equation" ["square", "line", "whole"] spSimp := ⟨_, _, ok_simp F_simplest_equation D_common_divisor D_square_root D_under_root D_equation_of_fraction, PySem.W.mg_of X G a_simplest_equation, k_simplest_equation, b_simplest_equation⟩
  have F_Exact_init := fun_mk (st := s_Exact_init) l_Exact_init c_Exact_init k_Exact_init
  have b_Exact_init := F_Exact_init.binds (ps := ["self", "square", "line", "whole"]) fun _ _ _ _ _ _ us hl => match us, hl with | [_, _, _, _], _ => rfl
  have X_exact : ExD l.prog w K mg base Ce := ⟨_, _, ⟨mkCe, a_Exact_init, i_Exact_init, kcCe⟩, ok_init F_Exact_init TX D_is_integer_withinP D_simplest_equation, b_Exact_init⟩
  have F_Exact_eq := fun_mk (st := s_Exact_eq) l_Exact_eq c_Exact_eq k_Exact_eq
  have b_Exact_eq := F_Exact_eq.binds (ps := ["self", "other"]) fun _ _ _ _ _ _ us hl => match us, hl with | [_, _], _ => rfl
  have OX : OwX l.prog w K mg base Ce aO f_Exact_eq _ := ⟨a_Exact_eq, i_Exact_eq, ok_eqo F_Exact_eq TX kt_E, b_Exact_eq, nf_E⟩
  have F_Exact_equation := fun_mk (st := s_Exact_equation) l_Exact_equation c_Exact_equation k_Exact_equation
  have b_Exact_equation := F_Exact_equation.binds (ps := ["self"]) fun _ _ _ _ _ _ us hl => match us, hl with | [_], _ => rfl
  have OQ : OwQ l.prog w K mg base Ce pr_Exact_equation f_Exact_equation _ := ⟨⟨pa_Exact_equation, pg_Exact_equation, pt_Exact_equation, _, pc_Exact_equation⟩, ok_eqn F_Exact_equation TX, b_Exact_equation⟩
  have F_ladder_limit := fun_mk (st := s_ladder_limit) l_ladder_limit c_ladder_limit k_ladder_limit
  have b_ladder_limit := F_ladder_limit.binds (ps := ["matrix"]) fun _ _ _ _ _ _ us hl => match us, hl with | [_], _ => rfl
  have D_ladder_limit : Df l.prog w K mg base 7 "ladder_limit" ["matrix"] (spLim aO Ce) := ⟨_, _, ok_lim F_ladder_limit TX X_exact, PySem.W.mg_of X G a_ladder_limit, k_ladder_limit, b_ladder_limit⟩
  have F_check_value := fun_mk (st := s_check_value) l_check_value c_check_value k_check_value
  have b_check_value := F_check_value.binds (ps := ["places", "certificate"]) fun _ _ _ _ _ _ us hl => match us, hl with | [_, _], _ => rfl
  have D_check_value : Df l.prog w K mg base 5 "check_value" ["places", "certificate"] (spCkN 4) := ⟨_, _, ok_ckvN F_check_value T.toTxt D_is_empty, PySem.W.mg_of X G a_check_value, k_check_value, b_check_value⟩
  have F_check_bound := fun_mk (st := s_check_bound) l_check_bound c_check_bound k_check_bound
  have b_check_bound := F_check_bound.binds (ps := ["places", "certificate", "sense"]) fun _ _ _ _ _ _ us hl => match us, hl with | [_, _, _], _ => rfl
  have D_check_bound : Df l.prog w K mg base 5 "check_bound" ["places", "certificate", "sense"] spCkF3 := ⟨_, _, ok_ckbF F_check_bound T.toTxt D_is_number, PySem.W.mg_of X G a_check_bound, k_check_bound, b_check_bound⟩
  have F_check_most := fun_mk (st := s_check_most) l_check_most c_check_most k_check_most
  have b_check_most := F_check_most.binds (ps := ["places", "certificate"]) fun _ _ _ _ _ _ us hl => match us, hl with | [_, _], _ => rfl
  have D_check_most : Df l.prog w K mg base 6 "check_most" ["places", "certificate"] spCkF := ⟨_, _, ok_ckmF F_check_most D_check_bound, PySem.W.mg_of X G a_check_most, k_check_most, b_check_most⟩
  have F_check_never := fun_mk (st := s_check_never) l_check_never c_check_never k_check_never
  have b_check_never := F_check_never.binds (ps := ["places", "certificate"]) fun _ _ _ _ _ _ us hl => match us, hl with | [_, _], _ => rfl
  have D_check_never : Df l.prog w K mg base 5 "check_never" ["places", "certificate"] (spCkB2 nevB) := ⟨_, _, ok_ckn F_check_never T D_is_empty D_is_row D_matrix_of D_difference D_never_below, PySem.W.mg_of X G a_check_never, k_check_never, b_check_never⟩
  have F_check_more := fun_mk (st := s_check_more) l_check_more c_check_more k_check_more
  have b_check_more := F_check_more.binds (ps := ["places", "certificate"]) fun _ _ _ _ _ _ us hl => match us, hl with | [_, _], _ => rfl
  have D_check_more : Df l.prog w K mg base 5 "check_more" ["places", "certificate"] (spCkB2 mreB) := ⟨_, _, ok_ckmo F_check_more T D_is_empty D_is_row D_is_number D_pair_of D_matrix_of D_shown_before D_pair_order, PySem.W.mg_of X G a_check_more, k_check_more, b_check_more⟩
  have F_check_limit := fun_mk (st := s_check_limit) l_check_limit c_check_limit k_check_limit
  have b_check_limit := F_check_limit.binds (ps := ["places", "certificate"]) fun _ _ _ _ _ _ us hl => match us, hl with | [_, _], _ => rfl
  have D_check_limit : Df l.prog w K mg base 8 "check_limit" ["places", "certificate"] (spCkB2 limB) := ⟨_, _, ok_ckli F_check_limit TX OX OQ D_is_integerG D_is_empty D_is_row D_is_resistance D_matrix_of D_ladder_limit, PySem.W.mg_of X G a_check_limit, k_check_limit, b_check_limit⟩
  have F_accepts := fun_mk (st := s_accepts) l_accepts c_accepts k_accepts
  have b_accepts := F_accepts.binds (ps := ["claim", "certificate"]) fun _ _ _ _ _ _ us hl => match us, hl with | [_, _], _ => rfl
  have ks : Keys K aCh f_check_value f_check_most f_check_never f_check_more f_check_limit := ⟨kr_kv, kr_km, kr_kn, kr_ko, kr_kl, kr_k0, kr_kx, kr_kr, of_decide_eq_true kr_nd⟩
  have HC0 : ∀ p ∈ chL f_check_value f_check_most f_check_never f_check_more f_check_limit, Held l.prog w K mg base 8 p.1 p.2 := (List.forall_mem_cons.mpr ⟨(⟨_, _, FnOk.mono (ok_ckvN F_check_value T.toTxt D_is_empty) (by decide), k_check_value, b_check_value⟩ : Held l.prog w K mg base 8 f_check_value _), List.forall_mem_cons.mpr ⟨(⟨_, _, FnOk.mono (ok_ckmF F_check_most D_check_bound) (by decide), k_check_most, b_check_most⟩ : Held l.prog w K mg base 8 f_check_most _), List.forall_mem_cons.mpr ⟨(⟨_, _, FnOk.mono (ok_ckn F_check_never T D_is_empty D_is_row D_matrix_of D_difference D_never_below) (by decide), k_check_never, b_check_never⟩ : Held l.prog w K mg base 8 f_check_never _), List.forall_mem_cons.mpr ⟨(⟨_, _, FnOk.mono (ok_ckmo F_check_more T D_is_empty D_is_row D_is_number D_pair_of D_matrix_of D_shown_before D_pair_order) (by decide), k_check_more, b_check_more⟩ : Held l.prog w K mg base 8 f_check_more _), List.forall_mem_cons.mpr ⟨(⟨_, _, FnOk.mono (ok_ckli F_check_limit TX OX OQ D_is_integerG D_is_empty D_is_row D_is_resistance D_matrix_of D_ladder_limit) (by decide), k_check_limit, b_check_limit⟩ : Held l.prog w K mg base 8 f_check_limit _), List.forall_mem_nil _⟩⟩⟩⟩⟩)
  have HC : ∀ f sp, chS (chL f_check_value f_check_most f_check_never f_check_more f_check_limit) f = some sp → Held l.prog w K mg base 8 f sp := fun f sp h => HC0 (f, sp) (lk_of h)
  have okA := FnOk.weak (ok_acc (P := l.prog) (w := w) (base := base) F_accepts T HC) (acc_weak ks)
  have D_accepts : Df l.prog w K mg base 9 "accepts" ["claim", "certificate"] spDue := ⟨_, _, okA, PySem.W.mg_of X G a_accepts, k_accepts, b_accepts⟩
  have F_law_cell := fun_mk (st := s_law_cell) l_law_cell c_law_cell k_law_cell
  have b_law_cell := F_law_cell.binds (ps := ["_law_script", "_law_place"]) fun _ _ _ _ _ _ us hl => match us, hl with | [_, _], _ => rfl
  have D_law_cell : Df l.prog w K mg base 1 "_law_cell" ["_law_script", "_law_place"] (spCell K) := ⟨_, _, ok_cell F_law_cell T.toTxt, PySem.W.mg_of X G a_law_cell, k_law_cell, b_law_cell⟩
  have F_law_src := fun_mk (st := s_law_src) l_law_src c_law_src k_law_src
  have b_law_src := F_law_src.binds (ps := ["_law_number"]) fun _ _ _ _ _ _ us hl => match us, hl with | [_], _ => rfl
  have D_law_src : Df l.prog w K mg base 1 "_law_src" ["_law_number"] spSrc := ⟨_, _, ok_src F_law_src T.toTxt, PySem.W.mg_of X G a_law_src, k_law_src, b_law_src⟩
  have F_law_pick := fun_mk (st := s_law_pick) l_law_pick c_law_pick k_law_pick
  have b_law_pick := F_law_pick.binds (ps := ["_law_tape", "_law_many"]) fun _ _ _ _ _ _ us hl => match us, hl with | [_, _], _ => rfl
  have D_law_pick : Df l.prog w K mg base 1 "_law_pick" ["_law_tape", "_law_many"] spDraw := ⟨_, _, ok_draw F_law_pick T.toTxt, PySem.W.mg_of X G a_law_pick, k_law_pick, b_law_pick⟩
  have F_law_lowest := fun_mk (st := s_law_lowest) l_law_lowest c_law_lowest k_law_lowest
  have b_law_lowest := F_law_lowest.binds (ps := ["_law_top", "_law_bottom"]) fun _ _ _ _ _ _ us hl => match us, hl with | [_, _], _ => rfl
  have D_law_lowest : Df l.prog w K mg base 1 "_law_lowest" ["_law_top", "_law_bottom"] spPair := ⟨_, _, ok_lowest F_law_lowest T.toTxt, PySem.W.mg_of X G a_law_lowest, k_law_lowest, b_law_lowest⟩
  have F_law_frac := fun_mk (st := s_law_frac) l_law_frac c_law_frac k_law_frac
  have b_law_frac := F_law_frac.binds (ps := ["_law_thing"]) fun _ _ _ _ _ _ us hl => match us, hl with | [_], _ => rfl
  have D_law_frac : Df l.prog w K mg base 2 "_law_frac" ["_law_thing"] spFrac := ⟨_, _, ok_frac F_law_frac T.toTxt D_law_lowest, PySem.W.mg_of X G a_law_frac, k_law_frac, b_law_frac⟩
  have F_law_led := fun_mk (st := s_law_led) l_law_led c_law_led k_law_led
  have b_law_led := F_law_led.binds (ps := ["_law_row", "_law_pair"]) fun _ _ _ _ _ _ us hl => match us, hl with | [_, _], _ => rfl
  have D_law_led : Df l.prog w K mg base 1 "_law_led" ["_law_row", "_law_pair"] spLed := ⟨_, _, ok_led F_law_led, PySem.W.mg_of X G a_law_led, k_law_led, b_law_led⟩
  have F_law_after := fun_mk (st := s_law_after) l_law_after c_law_after k_law_after
  have b_law_after := F_law_after.binds (ps := ["_law_row", "_law_pair", "_law_many"]) fun _ _ _ _ _ _ us hl => match us, hl with | [_, _, _], _ => rfl
  have D_law_after : Df l.prog w K mg base 2 "_law_after" ["_law_row", "_law_pair", "_law_many"] spAfter := ⟨_, _, ok_after F_law_after T.toTxt D_law_led D_law_lowest, PySem.W.mg_of X G a_law_after, k_law_after, b_law_after⟩
  have F_law_is_whole := fun_mk (st := s_law_is_whole) l_law_is_whole c_law_is_whole k_law_is_whole
  have b_law_is_whole := F_law_is_whole.binds (ps := ["_law_thing", "_law_first", "_law_last"]) fun _ _ _ _ _ _ us hl => match us, hl with | [_, _, _], _ => rfl
  have D_law_is_whole : Df l.prog w K mg base 1 "_law_is_whole" ["_law_thing", "_law_first", "_law_last"] spWhole := ⟨_, _, ok_whole F_law_is_whole T.toTxt, PySem.W.mg_of X G a_law_is_whole, k_law_is_whole, b_law_is_whole⟩
  have F_law_is_load := fun_mk (st := s_law_is_load) l_law_is_load c_law_is_load k_law_is_load
  have b_law_is_load := F_law_is_load.binds (ps := ["_law_thing"]) fun _ _ _ _ _ _ us hl => match us, hl with | [_], _ => rfl
  have D_law_is_load : Df l.prog w K mg base 1 "_law_is_load" ["_law_thing"] spIsLoad := ⟨_, _, ok_isload F_law_is_load T, PySem.W.mg_of X G a_law_is_load, k_law_is_load, b_law_is_load⟩
  have F_law_is_number := fun_mk (st := s_law_is_number) l_law_is_number c_law_is_number k_law_is_number
  have b_law_is_number := F_law_is_number.binds (ps := ["_law_thing"]) fun _ _ _ _ _ _ us hl => match us, hl with | [_], _ => rfl
  have D_law_is_number : Df l.prog w K mg base 1 "_law_is_number" ["_law_thing"] spIsNum := ⟨_, _, ok_isnum F_law_is_number T, PySem.W.mg_of X G a_law_is_number, k_law_is_number, b_law_is_number⟩
  have F_law_is_row := fun_mk (st := s_law_is_row) l_law_is_row c_law_is_row k_law_is_row
  have b_law_is_row := F_law_is_row.binds (ps := ["_law_thing"]) fun _ _ _ _ _ _ us hl => match us, hl with | [_], _ => rfl
  have D_law_is_row : Df l.prog w K mg base 2 "_law_is_row" ["_law_thing"] spIsRow := ⟨_, _, ok_isrow F_law_is_row T D_law_is_whole, PySem.W.mg_of X G a_law_is_row, k_law_is_row, b_law_is_row⟩
  have F_law_anyrow := fun_mk (st := s_law_anyrow) l_law_anyrow c_law_anyrow k_law_anyrow
  have b_law_anyrow := F_law_anyrow.binds (ps := ["_law_tape", "_law_longest"]) fun _ _ _ _ _ _ us hl => match us, hl with | [_, _], _ => rfl
  have D_law_anyrow : Df l.prog w K mg base 2 "_law_anyrow" ["_law_tape", "_law_longest"] spAnyRow := ⟨_, _, ok_anyrow F_law_anyrow T.toTxt D_law_pick, PySem.W.mg_of X G a_law_anyrow, k_law_anyrow, b_law_anyrow⟩
  have F_law_anyload := fun_mk (st := s_law_anyload) l_law_anyload c_law_anyload k_law_anyload
  have b_law_anyload := F_law_anyload.binds (ps := ["_law_tape"]) fun _ _ _ _ _ _ us hl => match us, hl with | [_], _ => rfl
  have D_law_anyload : Df l.prog w K mg base 2 "_law_anyload" ["_law_tape"] spAnyLoad := ⟨_, _, ok_anyload F_law_anyload D_law_pick, PySem.W.mg_of X G a_law_anyload, k_law_anyload, b_law_anyload⟩
  have F_law_anyodd := fun_mk (st := s_law_anyodd) l_law_anyodd c_law_anyodd k_law_anyodd
  have b_law_anyodd := F_law_anyodd.binds (ps := ["_law_tape"]) fun _ _ _ _ _ _ us hl => match us, hl with | [_], _ => rfl
  have D_law_anyodd : Df l.prog w K mg base 2 "_law_anyodd" ["_law_tape"] spOdd := ⟨_, _, ok_anyodd F_law_anyodd D_law_pick, PySem.W.mg_of X G a_law_anyodd, k_law_anyodd, b_law_anyodd⟩
  have D_law_anyrowL : Df l.prog w K mg base 2 "_law_anyrow" ["_law_tape", "_law_longest"] spAnyRowL := ⟨_, _, ok_anyrowL F_law_anyrow T.toTxt D_law_pick, PySem.W.mg_of X G a_law_anyrow, k_law_anyrow, b_law_anyrow⟩
  have F_law_sign := fun_mk (st := s_law_sign) l_law_sign c_law_sign k_law_sign
  have b_law_sign := F_law_sign.binds (ps := ["_law_one", "_law_two"]) fun _ _ _ _ _ _ us hl => match us, hl with | [_, _], _ => rfl
  have D_law_sign : Df l.prog w K mg base 1 "_law_sign" ["_law_one", "_law_two"] spSgn := ⟨_, _, ok_sgn F_law_sign, PySem.W.mg_of X G a_law_sign, k_law_sign, b_law_sign⟩
  have F_law_never := fun_mk (st := s_law_never) l_law_never c_law_never k_law_never
  have b_law_never := F_law_never.binds (ps := ["_law_row", "_law_mate"]) fun _ _ _ _ _ _ us hl => match us, hl with | [_, _], _ => rfl
  have D_law_never : Df l.prog w K mg base 2 "_law_never" ["_law_row", "_law_mate"] spLNev := ⟨_, _, ok_lnev F_law_never D_law_led, PySem.W.mg_of X G a_law_never, k_law_never, b_law_never⟩
  have F_law_isqrt := fun_mk (st := s_law_isqrt) l_law_isqrt c_law_isqrt k_law_isqrt
  have b_law_isqrt := F_law_isqrt.binds (ps := ["_law_number"]) fun _ _ _ _ _ _ us hl => match us, hl with | [_], _ => rfl
  have D_law_isqrt : Df l.prog w K mg base 1 "_law_isqrt" ["_law_number"] spIsq := ⟨_, _, ok_isq F_law_isqrt, PySem.W.mg_of X G a_law_isqrt, k_law_isqrt, b_law_isqrt⟩
  have F_law_limit := fun_mk (st := s_law_limit) l_law_limit c_law_limit k_law_limit
  have b_law_limit := F_law_limit.binds (ps := ["_law_row"]) fun _ _ _ _ _ _ us hl => match us, hl with | [_], _ => rfl
  have D_law_limit : Df l.prog w K mg base 2 "_law_limit" ["_law_row"] spLLim := ⟨_, _, ok_llim F_law_limit T D_law_led D_law_isqrt D_law_lowest, PySem.W.mg_of X G a_law_limit, k_law_limit, b_law_limit⟩
  have F_law_even := fun_mk (st := s_law_even) l_law_even c_law_even k_law_even
  have b_law_even := F_law_even.binds (ps := ["_law_tape"]) fun _ _ _ _ _ _ us hl => match us, hl with | [_], _ => rfl
  have D_law_even : Df l.prog w K mg base 2 "_law_even" ["_law_tape"] spEven := ⟨_, _, ok_even F_law_even D_law_pick, PySem.W.mg_of X G a_law_even, k_law_even, b_law_even⟩
  have F_law_some_row := fun_mk (st := s_law_some_row) l_law_some_row c_law_some_row k_law_some_row
  have b_law_some_row := F_law_some_row.binds (ps := ["_law_tape", "_law_longest"]) fun _ _ _ _ _ _ us hl => match us, hl with | [_, _], _ => rfl
  have D_law_some_row : Df l.prog w K mg base 3 "_law_some_row" ["_law_tape", "_law_longest"] spSomeRow := ⟨_, _, ok_somerow F_law_some_row D_law_pick D_law_even D_law_anyrowL, PySem.W.mg_of X G a_law_some_row, k_law_some_row, b_law_some_row⟩
  have F_law_near := fun_mk (st := s_law_near) l_law_near c_law_near k_law_near
  have b_law_near := F_law_near.binds (ps := ["_law_tape", "_law_row"]) fun _ _ _ _ _ _ us hl => match us, hl with | [_, _], _ => rfl
  have D_law_near : Df l.prog w K mg base 3 "_law_near" ["_law_tape", "_law_row"] spNear := ⟨_, _, ok_near F_law_near T D_law_pick D_law_anyrowL, PySem.W.mg_of X G a_law_near, k_law_near, b_law_near⟩
  have F_law_crossing := fun_mk (st := s_law_crossing) l_law_crossing c_law_crossing k_law_crossing
  have b_law_crossing := F_law_crossing.binds (ps := ["_law_tape"]) fun _ _ _ _ _ _ us hl => match us, hl with | [_], _ => rfl
  have D_law_crossing : Df l.prog w K mg base 2 "_law_crossing" ["_law_tape"] spCross := ⟨_, _, ok_cross F_law_crossing D_law_pick, PySem.W.mg_of X G a_law_crossing, k_law_crossing, b_law_crossing⟩
  have F_law_bent := fun_mk (st := s_law_bent) l_law_bent c_law_bent k_law_bent
  have b_law_bent := F_law_bent.binds (ps := ["_law_tape", "_law_said"]) fun _ _ _ _ _ _ us hl => match us, hl with | [_, _], _ => rfl
  have D_law_bent : Df l.prog w K mg base 3 "_law_bent" ["_law_tape", "_law_said"] spBent := ⟨_, _, ok_bent F_law_bent T D_law_pick D_law_anyodd, PySem.W.mg_of X G a_law_bent, k_law_bent, b_law_bent⟩
  have F_law_due := fun_mk (st := s_law_due) l_law_due c_law_due k_law_due
  have b_law_due := F_law_due.binds (ps := ["_law_said", "_law_paper"]) fun _ _ _ _ _ _ us hl => match us, hl with | [_, _], _ => rfl
  have D_law_due : Df l.prog w K mg base 3 "_law_due" ["_law_said", "_law_paper"] spDue := ⟨_, _, ok_due F_law_due T D_law_is_row D_law_is_load D_law_is_whole D_law_is_number D_law_limit D_law_never D_law_frac D_law_sign D_law_led, PySem.W.mg_of X G a_law_due, k_law_due, b_law_due⟩
  have F_law_told_limit := fun_mk (st := s_law_told_limit) l_law_told_limit c_law_told_limit k_law_told_limit
  have b_law_told_limit := F_law_told_limit.binds (ps := ["_law_tape", "_law_row", "_law_mate"]) fun _ _ _ _ _ _ us hl => match us, hl with | [_, _, _], _ => rfl
  have D_law_told_limit : Df l.prog w K mg base 3 "_law_told_limit" ["_law_tape", "_law_row", "_law_mate"] spTold := ⟨_, _, ok_told F_law_told_limit T D_law_pick D_law_limit, PySem.W.mg_of X G a_law_told_limit, k_law_told_limit, b_law_told_limit⟩
  have F_law_case := fun_mk (st := s_law_case) l_law_case c_law_case k_law_case
  have b_law_case := F_law_case.binds (ps := ["_law_tape"]) fun _ _ _ _ _ _ us hl => match us, hl with | [_], _ => rfl
  have D_law_case : Df l.prog w K mg base 4 "_law_case" ["_law_tape"] spCase := ⟨_, _, ok_case F_law_case T D_law_some_row D_law_near D_law_anyload D_law_pick D_law_crossing D_law_told_limit D_law_after D_law_lowest, PySem.W.mg_of X G a_law_case, k_law_case, b_law_case⟩
  have F_law_right := fun_mk (st := s_law_right) l_law_right c_law_right k_law_right
  have b_law_right := F_law_right.binds (ps := ["_law_tape"]) fun _ _ _ _ _ _ us hl => match us, hl with | [_], _ => rfl
  have D_law_right : DfG l.prog w K mg base 10 "_law_right" ["_law_tape"] spRight := ⟨_, _, ok_right F_law_right T D_law_case D_law_bent D_law_pick D_accepts D_law_due, PySem.W.mg_of X G a_law_right, k_law_right, b_law_right⟩
  exact ok_law (fun_mk (st := s_law) l_law c_law k_law) T D_law_cell D_law_src D_law_right
end RL

open PySem PySem.W PyProof.Rows
set_option maxRecDepth 100000 in
set_option maxHeartbeats 0 in
theorem PySem.Challenge.cw_rungladders_k72_patterns_and_limits_judg_holds : PySem.Challenge.rw_rungladders_k72_patterns_and_limits_judg.Holds := by
  w_on; o_law; k_head; (case hw => w_witness2)
  k_fill
  refine RL.walk_ofG (l := PySem.Challenge.rw_rungladders_k72_patterns_and_limits_judg) (n := 63) (k := 11) (x := "_law_script") (sp := fun w => RL.spLaw _) rfl (by decide) rfl ⟨rfl, by decide, by decide⟩ (fun w h Y => PySem.W.kIn_of Y) ?F (fun _ _ a ns hl _ hS => ⟨a, ns, rfl, hS, hl, fun _ => rfl⟩)
  case F =>
    intro w mg fa h KX G hmg
    refine' RL.all_mk KX G hmg ?aG ?aOh ?aJo ?aMS ?aKi ?aOp ?laOp ?aWo ?laWo ?aChk ?kr_chk ?z_len ?z_abs ?z_int ?z_bool ?z_tuple ?z_isinstance ?z_divmod ?z_max ?z_min ?z_range ?z_all ?z_repr ?z_str ?z_enumerate ?z_any ?z_list ?aGP ?aCe ?pgCe ?hdCe ?poCe ?saCe ?mkCe ?kcCe ?nCe_parts ?kt_E ?nf_E ?a_is_integer ?l_is_integer ?c_is_integer ?k_is_integer ?a_is_integer_within ?l_is_integer_within ?c_is_integer_within ?k_is_integer_within ?a_is_pair_of_integers ?l_is_pair_of_integers ?c_is_pair_of_integers ?k_is_pair_of_integers ?a_is_resistance ?l_is_resistance ?c_is_resistance ?k_is_resistance ?a_pair_of ?l_pair_of ?c_pair_of ?k_pair_of ?a_sign ?l_sign ?c_sign ?k_sign ?a_pair_order ?l_pair_order ?c_pair_order ?k_pair_order ?a_is_number ?l_is_number ?c_is_number ?k_is_number ?a_is_piece ?l_is_piece ?c_is_piece ?k_is_piece ?a_is_row ?l_is_row ?c_is_row ?k_is_row ?a_is_empty ?l_is_empty ?c_is_empty ?k_is_empty ?a_matrix_and_scale ?l_matrix_and_scale ?c_matrix_and_scale ?k_matrix_and_scale ?a_matrix_of ?l_matrix_of ?c_matrix_of ?k_matrix_of ?a_shown_before ?l_shown_before ?c_shown_before ?k_shown_before ?a_difference ?l_difference ?c_difference ?k_difference ?a_sign_at ?l_sign_at ?c_sign_at ?k_sign_at ?a_sign_far_out ?l_sign_far_out ?c_sign_far_out ?k_sign_far_out ?a_sign_from ?l_sign_from ?c_sign_from ?k_sign_from ?a_sign_towards ?l_sign_towards ?c_sign_towards ?k_sign_towards ?a_limit_beside ?l_limit_beside ?c_limit_beside ?k_limit_beside ?a_never_below ?l_never_below ?c_never_below ?k_never_below ?a_common_divisor ?l_common_divisor ?c_common_divisor ?k_common_divisor ?a_lowest_terms ?l_lowest_terms ?c_lowest_terms ?k_lowest_terms ?a_square_root ?l_square_root ?c_square_root ?k_square_root ?a_under_root ?l_under_root ?c_under_root ?k_under_root ?a_equation_of_fraction ?l_equation_of_fraction ?c_equation_of_fraction ?k_equation_of_fraction ?a_simplest_equation ?l_simplest_equation ?c_simplest_equation ?k_simplest_equation ?a_Exact_init ?i_Exact_init ?l_Exact_init ?c_Exact_init ?k_Exact_init ?a_Exact_eq ?i_Exact_eq ?l_Exact_eq ?c_Exact_eq ?k_Exact_eq ?pa_Exact_equation ?pg_Exact_equation ?pt_Exact_equation ?pc_Exact_equation ?l_Exact_equation ?c_Exact_equation ?k_Exact_equation ?a_ladder_limit ?l_ladder_limit ?c_ladder_limit ?k_ladder_limit ?a_check_value ?l_check_value ?c_check_value ?k_check_value ?a_check_bound ?l_check_bound ?c_check_bound ?k_check_bound ?a_check_most ?l_check_most ?c_check_most ?k_check_most ?a_check_never ?l_check_never ?c_check_never ?k_check_never ?a_check_more ?l_check_more ?c_check_more ?k_check_more ?a_check_limit ?l_check_limit ?c_check_limit ?k_check_limit ?kr_kv ?kr_km ?kr_kn ?kr_ko ?kr_kl ?kr_k0 ?kr_kx ?kr_kr ?kr_nd ?a_accepts ?l_accepts ?c_accepts ?k_accepts ?a_law_cell ?l_law_cell ?c_law_cell ?k_law_cell ?a_law_src ?l_law_src ?c_law_src ?k_law_src ?a_law_pick ?l_law_pick ?c_law_pick ?k_law_pick ?a_law_lowest ?l_law_lowest ?c_law_lowest ?k_law_lowest ?a_law_frac ?l_law_frac ?c_law_frac ?k_law_frac ?a_law_led ?l_law_led ?c_law_led ?k_law_led ?a_law_after ?l_law_after ?c_law_after ?k_law_after ?a_law_is_whole ?l_law_is_whole ?c_law_is_whole ?k_law_is_whole ?a_law_is_load ?l_law_is_load ?c_law_is_load ?k_law_is_load ?a_law_is_number ?l_law_is_number ?c_law_is_number ?k_law_is_number ?a_law_is_row ?l_law_is_row ?c_law_is_row ?k_law_is_row ?a_law_anyrow ?l_law_anyrow ?c_law_anyrow ?k_law_anyrow ?a_law_anyload ?l_law_anyload ?c_law_anyload ?k_law_anyload ?a_law_anyodd ?l_law_anyodd ?c_law_anyodd ?k_law_anyodd ?a_law_sign ?l_law_sign ?c_law_sign ?k_law_sign ?a_law_never ?l_law_never ?c_law_never ?k_law_never ?a_law_isqrt ?l_law_isqrt ?c_law_isqrt ?k_law_isqrt ?a_law_limit ?l_law_limit ?c_law_limit ?k_law_limit ?a_law_even ?l_law_even ?c_law_even ?k_law_even ?a_law_some_row ?l_law_some_row ?c_law_some_row ?k_law_some_row ?a_law_near ?l_law_near ?c_law_near ?k_law_near ?a_law_crossing ?l_law_crossing ?c_law_crossing ?k_law_crossing ?a_law_bent ?l_law_bent ?c_law_bent ?k_law_bent ?a_law_due ?l_law_due ?c_law_due ?k_law_due ?a_law_told_limit ?l_law_told_limit ?c_law_told_limit ?k_law_told_limit ?a_law_case ?l_law_case ?c_law_case ?k_law_case ?a_law_right ?l_law_right ?c_law_right ?k_law_right ?a_law ?l_law ?c_law ?k_law
    (case aChk => k_is)
    (case aCe => k_is)
    (case aG => k_is)
    (case aOh => k_is)
    (case aJo => k_is)
    (case aMS => k_is)
    (case aKi => k_is)
    (case aOp => k_is)
    (case laOp => k_is)
    (case aWo => k_is)
    (case laWo => k_is)
    (case kr_chk => kernel_rfl)
    (case z_len => k_is)
    (case z_abs => k_is)
    (case z_int => k_is)
    (case z_bool => k_is)
    (case z_tuple => k_is)
    (case z_isinstance => k_is)
    (case z_divmod => k_is)
    (case z_max => k_is)
    (case z_min => k_is)
    (case z_range => k_is)
    (case z_all => k_is)
    (case z_repr => k_is)
    (case z_str => k_is)
    (case z_enumerate => k_is)
    (case z_any => k_is)
    (case z_list => k_is)
    (case aGP => k_is)
    (case pgCe => k_is)
    (case hdCe => k_is)
    (case poCe => k_is)
    (case saCe => k_is)
    (case mkCe => k_is)
    (case kcCe => k_is)
    (case nCe_parts => k_is)
    (case kt_E => kit_is)
    (case nf_E => k_is)
    (case a_is_integer => k_is)
    (case l_is_integer => k_is)
    (case c_is_integer => k_is)
    (case k_is_integer => k_is)
    (case a_is_integer_within => k_is)
    (case l_is_integer_within => k_is)
    (case c_is_integer_within => k_is)
    (case k_is_integer_within => k_is)
    (case a_is_pair_of_integers => k_is)
    (case l_is_pair_of_integers => k_is)
    (case c_is_pair_of_integers => k_is)
    (case k_is_pair_of_integers => k_is)
    (case a_is_resistance => k_is)
    (case l_is_resistance => k_is)
    (case c_is_resistance => k_is)
    (case k_is_resistance => k_is)
    (case a_pair_of => k_is)
    (case l_pair_of => k_is)
    (case c_pair_of => k_is)
    (case k_pair_of => k_is)
    (case a_sign => k_is)
    (case l_sign => k_is)
    (case c_sign => k_is)
    (case k_sign => k_is)
    (case a_pair_order => k_is)
    (case l_pair_order => k_is)
    (case c_pair_order => k_is)
    (case k_pair_order => k_is)
    (case a_is_number => k_is)
    (case l_is_number => k_is)
    (case c_is_number => k_is)
    (case k_is_number => k_is)
    (case a_is_piece => k_is)
    (case l_is_piece => k_is)
    (case c_is_piece => k_is)
    (case k_is_piece => k_is)
    (case a_is_row => k_is)
    (case l_is_row => k_is)
    (case c_is_row => k_is)
    (case k_is_row => k_is)
    (case a_is_empty => k_is)
    (case l_is_empty => k_is)
    (case c_is_empty => k_is)
    (case k_is_empty => k_is)
    (case a_matrix_and_scale => k_is)
    (case l_matrix_and_scale => k_is)
    (case c_matrix_and_scale => k_is)
    (case k_matrix_and_scale => k_is)
    (case a_matrix_of => k_is)
    (case l_matrix_of => k_is)
    (case c_matrix_of => k_is)
    (case k_matrix_of => k_is)
    (case a_shown_before => k_is)
    (case l_shown_before => k_is)
    (case c_shown_before => k_is)
    (case k_shown_before => k_is)
    (case a_difference => k_is)
    (case l_difference => k_is)
    (case c_difference => k_is)
    (case k_difference => k_is)
    (case a_sign_at => k_is)
    (case l_sign_at => k_is)
    (case c_sign_at => k_is)
    (case k_sign_at => k_is)
    (case a_sign_far_out => k_is)
    (case l_sign_far_out => k_is)
    (case c_sign_far_out => k_is)
    (case k_sign_far_out => k_is)
    (case a_sign_from => k_is)
    (case l_sign_from => k_is)
    (case c_sign_from => k_is)
    (case k_sign_from => k_is)
    (case a_sign_towards => k_is)
    (case l_sign_towards => k_is)
    (case c_sign_towards => k_is)
    (case k_sign_towards => k_is)
    (case a_limit_beside => k_is)
    (case l_limit_beside => k_is)
    (case c_limit_beside => k_is)
    (case k_limit_beside => k_is)
    (case a_never_below => k_is)
    (case l_never_below => k_is)
    (case c_never_below => k_is)
    (case k_never_below => k_is)
    (case a_common_divisor => k_is)
    (case l_common_divisor => k_is)
    (case c_common_divisor => k_is)
    (case k_common_divisor => k_is)
    (case a_lowest_terms => k_is)
    (case l_lowest_terms => k_is)
    (case c_lowest_terms => k_is)
    (case k_lowest_terms => k_is)
    (case a_square_root => k_is)
    (case l_square_root => k_is)
    (case c_square_root => k_is)
    (case k_square_root => k_is)
    (case a_under_root => k_is)
    (case l_under_root => k_is)
    (case c_under_root => k_is)
    (case k_under_root => k_is)
    (case a_equation_of_fraction => k_is)
    (case l_equation_of_fraction => k_is)
    (case c_equation_of_fraction => k_is)
    (case k_equation_of_fraction => k_is)
    (case a_simplest_equation => k_is)
    (case l_simplest_equation => k_is)
    (case c_simplest_equation => k_is)
    (case k_simplest_equation => k_is)
    (case a_Exact_init => k_is)
    (case i_Exact_init => k_is)
    (case l_Exact_init => k_is)
    (case c_Exact_init => k_is)
    (case k_Exact_init => k_is)
    (case a_Exact_eq => k_is)
    (case i_Exact_eq => k_is)
    (case l_Exact_eq => k_is)
    (case c_Exact_eq => k_is)
    (case k_Exact_eq => k_is)
    (case pa_Exact_equation => k_is)
    (case pg_Exact_equation => k_is)
    (case pt_Exact_equation => k_is)
    (case pc_Exact_equation => k_is)
    (case l_Exact_equation => k_is)
    (case c_Exact_equation => k_is)
    (case k_Exact_equation => k_is)
    (case a_ladder_limit => k_is)
    (case l_ladder_limit => k_is)
    (case c_ladder_limit => k_is)
    (case k_ladder_limit => k_is)
    (case a_check_value => k_is)
    (case l_check_value => k_is)
    (case c_check_value => k_is)
    (case k_check_value => k_is)
    (case a_check_bound => k_is)
    (case l_check_bound => k_is)
    (case c_check_bound => k_is)
    (case k_check_bound => k_is)
    (case a_check_most => k_is)
    (case l_check_most => k_is)
    (case c_check_most => k_is)
    (case k_check_most => k_is)
    (case a_check_never => k_is)
    (case l_check_never => k_is)
    (case c_check_never => k_is)
    (case k_check_never => k_is)
    (case a_check_more => k_is)
    (case l_check_more => k_is)
    (case c_check_more => k_is)
    (case k_check_more => k_is)
    (case a_check_limit => k_is)
    (case l_check_limit => k_is)
    (case c_check_limit => k_is)
    (case k_check_limit => k_is)
    (case kr_kv => kernel_rfl)
    (case kr_km => kernel_rfl)
    (case kr_kn => kernel_rfl)
    (case kr_ko => kernel_rfl)
    (case kr_kl => kernel_rfl)
    (case kr_k0 => kernel_rfl)
    (case kr_kx => kernel_rfl)
    (case kr_kr => kernel_rfl)
    (case kr_nd => kernel_rfl)
    (case a_accepts => k_is)
    (case l_accepts => k_is)
    (case c_accepts => k_is)
    (case k_accepts => k_is)
    (case a_law_cell => k_is)
    (case l_law_cell => k_is)
    (case c_law_cell => k_is)
    (case k_law_cell => k_is)
    (case a_law_src => k_is)
    (case l_law_src => k_is)
    (case c_law_src => k_is)
    (case k_law_src => k_is)
    (case a_law_pick => k_is)
    (case l_law_pick => k_is)
    (case c_law_pick => k_is)
    (case k_law_pick => k_is)
    (case a_law_lowest => k_is)
    (case l_law_lowest => k_is)
    (case c_law_lowest => k_is)
    (case k_law_lowest => k_is)
    (case a_law_frac => k_is)
    (case l_law_frac => k_is)
    (case c_law_frac => k_is)
    (case k_law_frac => k_is)
    (case a_law_led => k_is)
    (case l_law_led => k_is)
    (case c_law_led => k_is)
    (case k_law_led => k_is)
    (case a_law_after => k_is)
    (case l_law_after => k_is)
    (case c_law_after => k_is)
    (case k_law_after => k_is)
    (case a_law_is_whole => k_is)
    (case l_law_is_whole => k_is)
    (case c_law_is_whole => k_is)
    (case k_law_is_whole => k_is)
    (case a_law_is_load => k_is)
    (case l_law_is_load => k_is)
    (case c_law_is_load => k_is)
    (case k_law_is_load => k_is)
    (case a_law_is_number => k_is)
    (case l_law_is_number => k_is)
    (case c_law_is_number => k_is)
    (case k_law_is_number => k_is)
    (case a_law_is_row => k_is)
    (case l_law_is_row => k_is)
    (case c_law_is_row => k_is)
    (case k_law_is_row => k_is)
    (case a_law_anyrow => k_is)
    (case l_law_anyrow => k_is)
    (case c_law_anyrow => k_is)
    (case k_law_anyrow => k_is)
    (case a_law_anyload => k_is)
    (case l_law_anyload => k_is)
    (case c_law_anyload => k_is)
    (case k_law_anyload => k_is)
    (case a_law_anyodd => k_is)
    (case l_law_anyodd => k_is)
    (case c_law_anyodd => k_is)
    (case k_law_anyodd => k_is)
    (case a_law_sign => k_is)
    (case l_law_sign => k_is)
    (case c_law_sign => k_is)
    (case k_law_sign => k_is)
    (case a_law_never => k_is)
    (case l_law_never => k_is)
    (case c_law_never => k_is)
    (case k_law_never => k_is)
    (case a_law_isqrt => k_is)
    (case l_law_isqrt => k_is)
    (case c_law_isqrt => k_is)
    (case k_law_isqrt => k_is)
    (case a_law_limit => k_is)
    (case l_law_limit => k_is)
    (case c_law_limit => k_is)
    (case k_law_limit => k_is)
    (case a_law_even => k_is)
    (case l_law_even => k_is)
    (case c_law_even => k_is)
    (case k_law_even => k_is)
    (case a_law_some_row => k_is)
    (case l_law_some_row => k_is)
    (case c_law_some_row => k_is)
    (case k_law_some_row => k_is)
    (case a_law_near => k_is)
    (case l_law_near => k_is)
    (case c_law_near => k_is)
    (case k_law_near => k_is)
    (case a_law_crossing => k_is)
    (case l_law_crossing => k_is)
    (case c_law_crossing => k_is)
    (case k_law_crossing => k_is)
    (case a_law_bent => k_is)
    (case l_law_bent => k_is)
    (case c_law_bent => k_is)
    (case k_law_bent => k_is)
    (case a_law_due => k_is)
    (case l_law_due => k_is)
    (case c_law_due => k_is)
    (case k_law_due => k_is)
    (case a_law_told_limit => k_is)
    (case l_law_told_limit => k_is)
    (case c_law_told_limit => k_is)
    (case k_law_told_limit => k_is)
    (case a_law_case => k_is)
    (case l_law_case => k_is)
    (case c_law_case => k_is)
    (case k_law_case => k_is)
    (case a_law_right => k_is)
    (case l_law_right => k_is)
    (case c_law_right => k_is)
    (case k_law_right => k_is)
    (case a_law => k_is)
    (case l_law => k_is)
    (case c_law => k_is)
    (case k_law => k_is)

